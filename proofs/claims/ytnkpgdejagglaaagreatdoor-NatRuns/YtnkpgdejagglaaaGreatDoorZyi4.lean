/-
  Of what a law stands on.
-/
import Derived.Test.YtnkpgdejagglaaaGreatDoorZyf1
import Derived.Test.YtnkpgdejagglaaaGreatDoorZyi3
set_option linter.all false
namespace Go.Proofs.YtnkpgdejagglaaaGreatDoor
open _root_.Go renaming Operand->aU,Value->ag,YieldsIf->gf,execOp->bG,yielded->dy
open _root_.List renaming length_drop->kW
open Go.Value renaming int → I,pointer → V
open Go.IntKind renaming i64 → Z
open _root_.Go.Proofs.Tryz Go.ChangeShapes Go.WideShapes Go.ChangeAt Go.RowKit
set_option maxHeartbeats 16000000
set_option maxRecDepth 100000
variable {B b:Nat}{w w':World}{o:Oper}{a:Act}{K:Act->World->Prop}{Q:Exit->Act->World->Prop}{cs:Array Value}
section
variable {ops:Array Oper} {S:World->Prop} {o:Oper} {a:Act}
def Me(x:aU)(s:ByteArray)(i:Int)(k:Nat)(v:Int)(ho:o.op=.index 9 x (.const (I Z i)))(hw:Region.wanted o (dy ops a.tmps)=true)(hx:a.eval x=.string s)(hi:i=k)(hk:k<s.size)(hv:∀h,((s[k]'h).toNat:Int)=v):gf prog ops S o (.int .u8 v) a:=
 .inl ⟨hw,fun w _=>by
  subst hi
  (have h1:(k:Int)<(s.size:Int):=by omega);(have h2:(0:Int)<=(k:Int):=by omega);have h3:=hv hk
  unfold bG;simp only[ho,hx];simp[go_sem,h1,h2,hk,h3]⟩
def Mf(x:aU)(n:Int)(ho:o.op=.convert 5 3 x)(hw:Region.wanted o (dy ops a.tmps)=true)(hx:a.eval x=.int .u8 n)(hn:IntKind.i64.wrap n=n):gf prog ops S o (I Z n) a:=
 .inl ⟨hw,fun w _=>by unfold bG;simp only[ho,hx];simp[go_sem,hn]⟩
def vx(x:aU)(s:ByteArray)(i j:Int)(k m:Nat)(ho:o.op=.slice 9 x (some (.const (I Z i))) (some (.const (I Z j))) none)(hw:Region.wanted o (dy ops a.tmps)=true)(hx:a.eval x=.string s)(hi:i=k)(hj:j=m)(hkm:k<=m)(hm:m<=s.size):gf prog ops S o (.string (s.extract k m)) a:=
 .inl ⟨hw,fun w _=>by
  subst hi hj
  (have h1:(0:Int)<=(k:Int):=by omega);(have h2:(k:Int)<=(m:Int):=by omega);(have h3:(m:Int)<=(s.size:Int):=by omega)
  unfold bG;simp only[ho,hx];simp[go_sem,h1,h2,h3,hkm,hm]⟩
def qcG(x:aU)(s:ByteArray)(j:Int)(m:Nat)(ho:o.op=.slice 9 x none (some (.const (I Z j))) none)(hw:Region.wanted o (dy ops a.tmps)=true)(hx:a.eval x=.string s)(hj:j=m)(hm:m<=s.size):gf prog ops S o (.string (s.extract 0 m)) a:=
 .inl ⟨hw,fun w _=>by
  subst hj
  (have h1:(0:Int)<=(m:Int):=by omega);(have h3:(m:Int)<=(s.size:Int):=by omega)
  unfold bG;simp only[ho,hx];simp[go_sem,h1,h3,hm]⟩
end
def qbY{w0:World}(h:Below B w0 w):Below B w0 w.drew:=⟨h.os,h.tape,h.output,h.size,h.block⟩
theorem pL(f:FuncId)(args:Array ag)(hrun:(bG a.eval o).run prog w=.ok (.enter f args) w)(v:ag)(hc:Calls prog f args w fun e w'=>e=.returned v/\Below w.heap.size w w')(h:∀w',Below w.heap.size w w'->K (a.put o.dst v) w'):o.wp prog a w K Q:=by
 unfold Oper.wp
 rw[hrun,Oper.upon_enter]
 refine hc.mono fun e w'' hh=>?_
 grind
def qcT(cs:Array ag)(h:cs.size=12):(prog.info? 77).map (·.size)=some cs.size:=by rw[h];kernel_rfl
def qcU(ho:o.op=.alloc 77)(h:∀b w',b=w.heap.size->ew w' b #[I Z 0,I Z 0,I Z 0,I Z 0,I Z 0,I Z 0,I Z 0,I Z 0,I Z 0,I Z 0,I Z 0,.string ⟨#[]⟩]->(∀r cs,ew w r cs->ew w' r cs)->(∀B w0,Below B w0 w->B<=w.heap.size->Below B w0 w')->K (a.put o.dst (V (some ⟨b,0,none⟩))) w'):o.wp prog a w K Q:=by
 have h':=h w.heap.size (w.alloc (.cells #[I Z 0,I Z 0,I Z 0,I Z 0,I Z 0,I Z 0,I Z 0,I Z 0,I Z 0,I Z 0,I Z 0,.string ⟨#[]⟩] 77)) rfl (heap_alloc_new w _) (fun r cs hr=>qbQ _ _ _ hr) (fun B w0 hb hB=>hb.alloc hB _)
 unfold Oper.wp bG
 simp[ho,Instr.alloc,go_sem]
 exact h'
def qbW(x y:aU)(ho:o.op=.store 77 x y)(b:Nat)(hx:a.eval x=V (some ⟨b,0,none⟩))(cs:Array ag)(hy:a.eval y=.agg cs)(old:Array ag)(h:ew w b old)(hs:old.size=12)(hc:cs.size=12)(h1:cs.all (·.oneCell')=true)(hr:∀w',ew w' b cs->(∀r ds,r≠b->ew w r ds->ew w' r ds)->(∀B w0,B<=b->Below B w0 w->Below B w0 w')->K (a.put o.dst undef) w'):o.wp prog a w K Q:=by
 have hst:=run_storeVar_row (P:=prog) w b 77 77 old cs h (qcT cs hc) (by rw[hs,hc]) h1
 unfold Oper.wp bG
 simp only[ho,hx,hy,Instr.storeAt,Instr.sureAddr,Sem.run_bind,Sem.run_pure,Result.andThen_ok,hst]
 exact hr _ (setRow_heap w b old _ _ _ h) (fun r ds hne Mq=>(setRow_other w b r _ hne).trans Mq) (fun B w0 hB hb=>below_setRow hb hB _)
def yr(x y:aU)(ho:o.op=.store 3 x y)(b i:Nat)(hx:a.eval x=V (some ⟨b,i,none⟩))(n:Int)(hy:a.eval y=I Z n)(cs:Array ag)(h:ew w b cs)(hi:i<cs.size)(hr:∀w',ew w' b (cs.setIfInBounds i (I Z n))->(∀r ds,r≠b->ew w r ds->ew w' r ds)->(∀B w0,B<=b->Below B w0 w->Below B w0 w')->K (a.put o.dst undef) w'):o.wp prog a w K Q:=by
 have hc:w.cell? ⟨b,i,none⟩=some cs[i]:=(h.cell i).trans (Array.getElem?_eq_getElem hi);have hf:=h.free i;(have h':=hr (w.setCell ⟨b,i,none⟩ (I Z n)) (h.set i _) (fun r ds hne Mq=>pJ Mq hne) (fun B w0 hB hb=>hb.setCell (by exact hB) _))
 unfold Oper.wp bG
 simp only[ho,hx,hy]
 simp[go_sem,hc,hf]
 exact h'
theorem vG(l:List UInt8)(k:Nat)(h:k<l.length):l.drop k=[b8 (aC l k)]++l.drop (k+1):=by
 have e:b8 (aC l k)=l[k]:=by
  unfold aC
  rw[List.getD_eq_getElem?_getD,List.getElem?_eq_getElem h]
  show b8 (l[k].toNat:Int)=l[k]
  have h1:=qR (l[k].toNat:Int);have h2:=xQ l[k]
  exact UInt8.toNat_inj.1 om
 simp_all
theorem pM(l:List UInt8)(k:Nat)(h:k+1<l.length):l.drop k=cr (bf l k)++l.drop (k+2):=by
 rw[qwn l k h,←List.drop_drop,List.take_append_drop]
theorem FB(l:List UInt8)(k:Nat)(h:k+3<l.length):l.drop k=iM (bL l k)++l.drop (k+4):=by
 rw[qu2 l k h,←List.drop_drop,List.take_append_drop]
def q6e(l:List UInt8)(h:20<=l.length)(h0:aC l 0=69)(h1:aC l 1=0)(h6:bf l 6=0)(k:bM)(hi:k.id=bf l 4)(ht:k.aG=aC l 8)(hp:k.ae=aC l 9)(hs:k.src=bL l 12)(xT:k.dst=bL l 16):
  l=hd k (bf l 2) (bf l 10)++l.drop 20:=by
 have e:l=[b8 (aC l 0)]++([b8 (aC l 1)]++(cr (bf l 2)++(cr (bf l 4)++(cr (bf l 6)++([b8 (aC l 8)]++([b8 (aC l 9)]++(cr (bf l 10)++(iM (bL l 12)++(iM (bL l 16)++l.drop 20))))))))):=by
  rw[←FB l 16 om,←FB l 12 om,←pM l 10 om,←vG l 9 om,←vG l 8 om,←pM l 6 om,←pM l 4 om,←pM l 2 om,←vG l 1 om,←vG l 0 om];rfl
 rw[h0,h1,h6] at e
 unfold hd
 rw[hi,ht,hp,hs,xT]
 simp only[List.append_assoc,List.singleton_append,List.cons_append,List.nil_append]
 exact e
theorem qcV(l:List UInt8):(ba l).id=bf l 4:=by grind [ba,bf]
theorem qcW(l:List UInt8):(ba l).aG=aC l 8:=by grind [ba,aC]
theorem q3c(l:List UInt8):(ba l).src=bL l 12:=by grind [ba,bL]
theorem q2a(l:List UInt8):(ba l).dst=bL l 16:=by grind [ba,bL]
def Bp{p:Prop}(h:p:=by
 simp only[List.append_assoc,List.singleton_append,List.cons_append,List.nil_append]
 rfl):p:=h
theorem q4z(l:List UInt8)(H:o9 l)(P:qom l (aC l 9)):l.drop 20=pt (ba l) (bf l (fJ (aC l 9)))++(ba l).body.data.toList/\gH (aC l 9)+(ba l).body.size=(l.length:Int)-20:=by
 have hn:=P.len
 rcases(Hd _).1 H.kind with hp|hp|hp
 ·(have e8:gH (aC l 9)=8:=by rw[hp];rfl)
  rw[e8] at hn
  (have hb:(ba l).body=bl (l.drop 28):=by unfold ba;rw[aZ hp])
  refine⟨?_,by rw[e8,hb,kY,kW];omega⟩
  have e:l.drop 20=[b8 (aC l 20)]++([b8 (aC l 21)]++(cr (bf l 22)++(cr (bf l 24)++(cr (bf l 26)++l.drop 28)))):=by
   grind [pM,vG]
  rw[P.Rv hp] at e
  rw[hb,zW,e,show fJ (aC l 9)=22 by rw[hp];rfl]
  unfold pt
  rw[aZ (by rw[FA];exact hp)]
  (have f1:(ba l).flags=aC l 20:=by unfold ba;rw[aZ hp]);(have f2:(ba l).seq=bf l 26:=by unfold ba;rw[aZ hp])
  have f3:(ba l).aj+(ba l).ai=bf l 24:=by
   grind [ba,aC,bf]
  rw[f1,f2,f3]
  exact Bp
 ·(have e8:gH (aC l 9)=20:=by rw[hp];rfl)
  rw[e8] at hn
  (have n1:¬aC l 9=1:=by omega);(have hb:(ba l).body=bl (l.drop 40):=by unfold ba;rw[aT n1,aZ hp])
  refine⟨?_,by rw[e8,hb,kY,kW];omega⟩
  have e:l.drop 20=cr (bf l 20)++(cr (bf l 22)++(iM (bL l 24)++(iM (bL l 28)++([b8 (aC l 32)]++([b8 (aC l 33)]++(cr (bf l 34)++(cr (bf l 36)++(cr (bf l 38)++l.drop 40)))))))):=by
   rw[←pM l 38 om,←pM l 36 om,←pM l 34 om,←vG l 33 om,←vG l 32 om,←FB l 28 om,←FB l 24 om,←pM l 22 om,←pM l 20 om]
  rw[P.qcQ hp,P.qcR hp] at e
  rw[hb,zW,e,show fJ (aC l 9)=36 by rw[hp];rfl]
  unfold pt
  rw[aT (by rw[FA];exact n1),aT (by rw[FA];omega)]
  have f:(ba l).aj=bf l 20/\(ba l).ai=bf l 22/\(ba l).seq=bL l 24/\(ba l).bo=bL l 28/\(ba l).flags=aC l 33/\(ba l).br=bf l 34:=by
   grind [ba]
  obtain⟨f1,f2,f3,f4,f5,f6⟩:=f;rw[f1,f2,f3,f4,f5,f6]
  exact Bp
 ·(have e8:gH (aC l 9)=8:=by rw[hp];rfl)
  rw[e8] at hn
  (have n1:¬aC l 9=1:=by omega);(have n6:¬aC l 9=6:=by omega);(have hb:(ba l).body=bl (l.drop 28):=by unfold ba;rw[aT n1,aT n6]);(have hz:gH (aC l 9)+(ba l).body.size=(l.length:Int)-20:=by rw[e8,hb,kY,kW];omega)
  refine⟨?_,hz⟩
  have e:l.drop 20=cr (bf l 20)++(cr (bf l 22)++(cr (bf l 24)++(cr (bf l 26)++l.drop 28))):=by
   grind [pM]
  rw[e,show fJ (aC l 9)=26 by rw[hp];rfl]
  unfold pt
  rw[aT (by rw[FA];exact n1),aZ (by rw[FA];exact hp)]
  have f:(ba l).aj=bf l 20/\(ba l).ai=bf l 22:=by
   grind [ba]
  (have f3:8+((ba l).body.size:Int)=bf l 24:=by have:=P.udp hp;omega)
  grind [zW]
theorem q61(l:List UInt8)(hb:cj l=0):l=fr (ba l) (bf l 10) (bf l (fJ (aC l 9)))/\(bf l 10+bJ (hd (ba l) (dQ (ba l)) 0))%65535=0/\(bf l (fJ (aC l 9))+mh (ba l) 0)%65535=0:=by
 obtain⟨H,P,hg⟩:=OD l hb;obtain⟨hc,hz⟩:=q4z l H P
 have hlen:bf l 2=dQ (ba l):=by
  unfold dQ;rw[FA,H.size];omega
 have hh:=q6e l H.len H.mark H.yn H.piece (ba l) (qcV l) (qcW l) (FA l) (q3c l) (q2a l)
 rw[hlen] at hh
 have e:l=fr (ba l) (bf l 10) (bf l (fJ (aC l 9))):=by
  unfold fr;rw[←hc];exact hh
 have w1:=Ej l 10;have w2:=Ej l (fJ (aC l 9))
 refine⟨e,?_,?_⟩
 .have i3:l.take 20=hd (ba l) (dQ (ba l)) (bf l 10):=by
   have:=congrArg (List.take 20) hh
   rw[this,List.take_left' (by rfl)]
  have hs:=H.sum
  grind [q1p,N8,bJ,ba,dQ,bf]
 .have hs:=P.sum
  rw[←q82 l _ H.len,hc] at hs
  have ha:bJ (ps (bL l 12) (bL l 16) (aC l 9) ((l.length:Int)-20)++(pt (ba l) (bf l (fJ (aC l 9)))++(ba l).body.data.toList))=mh (ba l) (bf l (fJ (aC l 9))):=by
   grind [mh,q3c,q2a,FA]
  grind [qxw,N8,mh,ba,bf,fJ,aC]
def ew.more{o:Obj}(h:ew w b cs):ew (w.alloc o) b cs:=h.below ((Below.refl _ _).alloc (Nat.le_refl _) _)
def ew.next{o:Obj}(h:ew w b cs)(hb:Below (w.alloc o).heap.size (w.alloc o) w'):ew w' b cs:=(h.more (o:=o)).below hb
def qcK{v:World}{o:Obj}(h:Below B v w)(hB:B<=w.heap.size)(hb:Below (w.alloc o).heap.size (w.alloc o) w'):Below B v w':=(h.alloc hB o).trans (hb.mono (by simp;omega))
theorem qcJ(k:bM)(h:good k=0):built k=bl (frame k):=by unfold built;rw[aZ h]
end Go.Proofs.YtnkpgdejagglaaaGreatDoor
