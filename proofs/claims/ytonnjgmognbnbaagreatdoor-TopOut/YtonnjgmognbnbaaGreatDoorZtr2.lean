/-
  Of what a law stands on.
-/
import Derived.Test.YtonnjgmognbnbaaGreatDoorZtr1
set_option linter.unusedSimpArgs false
set_option linter.unusedVariables false
namespace Go.Proofs.YtonnjgmognbnbaaGreatDoor
open Go.Value renaming int → I,pointer → V
open Go.IntKind renaming i64 → Z
open _root_.Go.Proofs.Tryz Go.ChangeShapes Go.WideShapes Go.ChangeAt Go.RowKit
set_option maxHeartbeats 16000000
set_option maxRecDepth 100000
variable {l:List UInt8}{all es es':List Ev}{e:Ev}{time:Int}{b base c p r:Nat}{t:TypeId}{cs:Array Value}{ops:Array Oper}{rest:List Oper}{o:Oper}{a:Act}{w w':World}{Q:Exit->Act->World->Prop}{d:Bool}{v:Value}{K:Act->World->Prop}{S:World->Prop}
theorem qgab(l:List UInt8)(n:Int)(h:0<=n):0<=l.foldl (fun n c=>256*n+(c.toNat:Int)) n/\l.foldl (fun n c=>256*n+(c.toNat:Int)) n<(n+1)*256^l.length:=by
 induction l generalizing n with
 | nil=>simp;omega
 | cons c r ih=>
  have hc:=qje c
  have:=ih (256*n+(c.toNat:Int)) om
  rw[List.foldl_cons,List.length_cons,Int.pow_succ]
  refine⟨this.1,Int.lt_of_lt_of_le this.2 ?_⟩
  (have h1:(256*n+(c.toNat:Int)+1)<=(n+1)*256:=by omega);have h2:(0:Int)<=256^r.length:=Int.pow_nonneg (by decide)
  have:=Int.mul_le_mul_of_nonneg_right h1 h2
  rw[Int.mul_comm (256^r.length) 256,←Int.mul_assoc]
  exact this
theorem qfrb(l:List UInt8):0<=num l/\num l<256^l.length:=by
 have:=qgab l 0 om
 simpa[num] using this
theorem qg1b{k:Nat}(h:l.length<=k)(hk:k<=4):0<=num l/\num l<=4294967295:=by
 have h0:=qfrb l
 refine⟨h0.1,?_⟩
 rcases(show l.length=0\/l.length=1\/l.length=2\/l.length=3\/l.length=4 by omega) with e|e|e|e|e<;>rw[e] at h0<;>simp at h0<;>omega
theorem qgqb(h:l.length<=2):num l<=65535:=by
 have h0:=qfrb l
 rcases(show l.length=0\/l.length=1\/l.length=2 by omega) with e|e|e<;>rw[e] at h0<;>simp at h0<;>omega
theorem qdkb{x:Int}(h0:-9223372036854775808<=x)(h1:x<=9223372036854775807):wrap64 x=x:=by unfold wrap64;omega
theorem qc9b(v:Int)(n:Nat):num (be v n)=v%256^n:=by
 induction n generalizing v with
 | zero=>simp[be,num]
 | succ n ih=>
  unfold be
  rw[qemb,ih,qc1,Int.pow_succ];have h2:(0:Int)<256^n:=Int.pow_pos (by decide)
  generalize(256:Int) ^ n=m at *
  have e1:=Int.emod_add_mul_ediv v 256;have e2:=Int.emod_add_mul_ediv (v/256) m;have e3:=Int.emod_nonneg (v/256) (b:=m) om;have e4:=Int.emod_lt_of_pos (v/256) h2;have e5:=Int.emod_nonneg v (b:=256) (by decide);have e6:=Int.emod_lt_of_pos v (b:=256) (by decide)
  have key:v=(256*((v/256)%m)+v%256)+(m*256)*((v/256)/m):=by
   have:256*(v/256)=256*((v/256)%m)+(m*256)*((v/256)/m):=by
    conv=>lhs;rw[←e2]
    rw[Int.mul_add,Int.mul_comm m 256,Int.mul_assoc]
   omega
  (have hb:0<=256*((v/256)%m)+v%256:=by omega);(have hl:256*((v/256)%m)+v%256<m*256:=by omega)
  conv=>rhs;rw[key]
  rw[Int.add_mul_emod_self_left,Int.emod_eq_of_lt hb hl]
def nAt(l:List UInt8)(a k:Nat):Int:=num ((l.drop a).take k)
theorem qc2b(l:List UInt8)(a k:Nat)(hk:k<=4):0<=nAt l a k/\nAt l a k<=4294967295:=qg1b (k:=k) (by rw[List.length_take];omega) hk
theorem qgsb(l:List UInt8)(a:Nat):nAt l a 2<=65535:=qgqb (by rw[List.length_take];omega)
def rdE(l:List UInt8):Ev:=⟨wrap64 (nAt l 0 8),nAt l 8 4-167772160-1,nAt l 12 4-3405803776-1,(nAt l 16 2-1024).tdiv 8,nAt l 20 1==2⟩
def okR(l:List UInt8):Prop:=okE (rdE l)/\evB (rdE l)=l.take 21
theorem qc4b(x y z:List UInt8)(k:Nat)(hy:y.length=k)(a:Nat)(ha:x.length=a):nAt (x++(y++z)) a k=num y:=by
 unfold nAt
 rw[←ha,List.drop_left,←hy,List.take_left]
theorem qg6b(e:Ev)(h:okE e)(z:List UInt8):rdE (evB e++z)=e:=by
 obtain⟨⟨t0,t1⟩,⟨s0,s1⟩,⟨a0,a1⟩,b0,b1⟩:=h;have hk:=qadb e
 have e0:nAt (evB e++z) 0 8=e.t:=by
  have:=qc4b [] (be e.t 8) (be (167772161+e.s) 4++be (3405803777+e.a) 4++be (1024+e.b*8) 2++be (1024+e.b*8+8-1) 2++be (mkE e) 1++z) 8 (qd8 _ _) 0 rfl
  rw[qc9b] at this
  rw[show evB e++z=[]++(be e.t 8++(be (167772161+e.s) 4++be (3405803777+e.a) 4++be (1024+e.b*8) 2++be (1024+e.b*8+8-1) 2++be (mkE e) 1++z)) by simp[evB],this]
  omega
 have e1:nAt (evB e++z) 8 4=167772161+e.s:=by
  have:=qc4b (be e.t 8) (be (167772161+e.s) 4) (be (3405803777+e.a) 4++be (1024+e.b*8) 2++be (1024+e.b*8+8-1) 2++be (mkE e) 1++z) 4 (qd8 _ _) 8 (qd8 _ _)
  rw[qc9b] at this
  rw[show evB e++z=be e.t 8++(be (167772161+e.s) 4++(be (3405803777+e.a) 4++be (1024+e.b*8) 2++be (1024+e.b*8+8-1) 2++be (mkE e) 1++z)) by simp[evB],this]
  omega
 have e2:nAt (evB e++z) 12 4=3405803777+e.a:=by
  have:=qc4b (be e.t 8++be (167772161+e.s) 4) (be (3405803777+e.a) 4) (be (1024+e.b*8) 2++be (1024+e.b*8+8-1) 2++be (mkE e) 1++z) 4 (qd8 _ _) 12 (by simp[qd8])
  rw[qc9b] at this
  rw[show evB e++z=be e.t 8++be (167772161+e.s) 4++(be (3405803777+e.a) 4++(be (1024+e.b*8) 2++be (1024+e.b*8+8-1) 2++be (mkE e) 1++z)) by simp[evB],this]
  omega
 have e3:nAt (evB e++z) 16 2=1024+e.b*8:=by
  have:=qc4b (be e.t 8++be (167772161+e.s) 4++be (3405803777+e.a) 4) (be (1024+e.b*8) 2) (be (1024+e.b*8+8-1) 2++be (mkE e) 1++z) 2 (qd8 _ _) 16 (by simp[qd8])
  rw[qc9b] at this
  rw[show evB e++z=be e.t 8++be (167772161+e.s) 4++be (3405803777+e.a) 4++(be (1024+e.b*8) 2++(be (1024+e.b*8+8-1) 2++be (mkE e) 1++z)) by simp[evB],this]
  omega
 have e4:nAt (evB e++z) 20 1=mkE e:=by
  have:=qc4b (be e.t 8++be (167772161+e.s) 4++be (3405803777+e.a) 4++be (1024+e.b*8) 2++be (1024+e.b*8+8-1) 2) (be (mkE e) 1) z 1 (qd8 _ _) 20 (by simp[qd8])
  rw[qc9b] at this
  rw[show evB e++z=be e.t 8++be (167772161+e.s) 4++be (3405803777+e.a) 4++be (1024+e.b*8) 2++be (1024+e.b*8+8-1) 2++(be (mkE e) 1++z) by simp[evB],this]
  omega
 unfold rdE
 rw[e0,e1,e2,e3,e4,qdkb om om];obtain⟨t,s,a,b,fr⟩:=e
 simp only at *
 have h5:(1024+b*8-1024).tdiv 8=b:=by
  (rw[show 1024+b*8-1024=8*b by omega,Int.mul_tdiv_cancel_left _ (by decide)])
 (rw[h5,show 167772161+s-167772160-1=s by omega,show 3405803777+a-3405803776-1=a by omega])
 cases fr<;>simp[mkE]
def qcyb(es:List Ev)(t:Int):Bool:=match es.getLast? with
 | none=>false
 | some e=>decide (t<e.t)
theorem qfkb(h:0<es.length)(t:Int)(he:es[es.length-1]'om=e):qcyb es t=decide (t<e.t):=by
 unfold qcyb
 have:es.getLast?=some e:=by rw[List.getLast?_eq_getElem?,List.getElem?_eq_getElem om,he]
 rw[this]
def evs.dec(time:Int)(l:List UInt8)(es:List Ev):Decidable (okR l/\(rdE l).t%4294967296=time/\qcyb es (rdE l).t=false):=by unfold okR;have:=okE.dec;exact inferInstance
def evs(time:Int):Nat->List UInt8->List Ev->Option (List Ev)
 | 0,_,es=>some es
 | c+1,l,es=>@ite _ (okR l/\(rdE l).t%4294967296=time/\qcyb es (rdE l).t=false) (evs.dec time l es) (evs time c (l.drop 21) (es++[rdE l])) none
theorem qd4b(h:okR l/\(rdE l).t%4294967296=time/\qcyb es (rdE l).t=false):evs time (c+1) l es=evs time c (l.drop 21) (es++[rdE l]):=if_pos h
theorem qd3b(h:¬(okR l/\(rdE l).t%4294967296=time/\qcyb es (rdE l).t=false)):evs time (c+1) l es=none:=if_neg h
def qctb(l:List UInt8):Int:=
 if l.length<16 then 1 else
 if nAt l 0 2≠10\/nAt l 2 2<20\/(l.length:Int)<nAt l 2 2\/nAt l 12 4≠1 then 1 else
 if (nAt l 16 2≠2/\nAt l 16 2≠300)\/nAt l 18 2≠nAt l 2 2-16 then 1 else 0
def qcsb(l:List UInt8)(d:Bool)(es:List Ev):Int×List UInt8×Bool×List Ev:=
 if qctb l≠0 then(qctb l,[],false,[]) else
 if nAt l 8 4≠(es.length:Int) then(3,[],false,[]) else
 if nAt l 16 2=2 then(if l.take (nAt l 2 2).toNat=msgB 0 (es.length:Int) 2 (tplB 6) then(0,l.drop (nAt l 2 2).toNat,true,es) else(4,[],false,[])) else
 if d=false then(7,[],false,[]) else
 if nAt l 2 2=20\/(nAt l 2 2-20)%21≠0 then(1,[],false,[]) else
 match evs (nAt l 4 4) ((nAt l 2 2-20)/21).toNat (l.drop 20) es with
 | none=>(2,[],false,[])
 | some es'=>(0,l.drop (nAt l 2 2).toNat,d,es')
def runM:Nat->List UInt8->Bool->List Ev->Int×List Ev
 | 0,_,_,es=>(0,es)
 | n+1,l,d,es=>if l.length=0 then(0,es) else if (qcsb l d es).1≠0 then((qcsb l d es).1,[]) else runM n (qcsb l d es).2.1 (qcsb l d es).2.2.1 (qcsb l d es).2.2.2
theorem qelb(n:Nat)(l:List UInt8)(d:Bool)(es:List Ev)(h:l.length=0):runM n l d es=(0,es):=by
 cases n with
 | zero=>rfl
 | succ n=>unfold runM;rw[if_pos h]
theorem qgbb(n:Nat)(l:List UInt8)(d:Bool)(es:List Ev)(h:l.length≠0)(hE:(qcsb l d es).1≠0):runM (n+1) l d es=((qcsb l d es).1,[]):=by
 unfold runM;rw[if_neg h,if_pos hE]
theorem qd9b(n:Nat)(l:List UInt8)(d:Bool)(es:List Ev)(h:l.length≠0){l':List UInt8}{d':Bool}(hE:qcsb l d es=(0,l',d',es')):runM (n+1) l d es=runM n l' d' es':=by
 conv=>lhs;unfold runM
 rw[if_neg h,hE];simp
theorem qghb(l:List UInt8):qctb l=0\/qctb l=1:=by unfold qctb;split<;>(try split)<;>(try split)<;>simp
theorem qf5b(h:qctb l=0):16<=l.length/\nAt l 0 2=10/\20<=nAt l 2 2/\nAt l 2 2<=(l.length:Int)/\nAt l 12 4=1/\(nAt l 16 2=2\/nAt l 16 2=300)/\nAt l 18 2=nAt l 2 2-16:=by
 unfold qctb at h
 split at h
 ·simp at h
 ·split at h
  ·simp at h
  ·split at h
   ·simp at h
   ·omega
theorem qgob(h : evs time c l es = some es'): es'.length = es.length + c := by
  induction c generalizing l es with
  | zero => have : es = es' := by simpa[evs] using h
            subst this;rfl
  | succ c ih =>
    by_cases hk : okR l /\ (rdE l).t%4294967296 = time /\ qcyb es (rdE l).t = false
    · rw[qd4b hk] at h;have := ih h;simp at this;omega
    · rw[qd3b hk] at h;simp at h
structure qfb(p:Nat)(w w':World):Prop where
 os:w'.os=w.os
 tape:w'.tape=w.tape
 output:w'.output=w.output
 size:w.heap.size<=w'.heap.size
 block:∀k,k<w.heap.size->k≠p->w'.heap[k]?=w.heap[k]?
section
variable {p:Nat} {a b c:World}
theorem qfb.refl(p:Nat)(w:World):qfb p w w:=⟨rfl,rfl,rfl,Nat.le_refl _,fun _ _ _=>rfl⟩
theorem qfb.trans(h:qfb p a b)(k:qfb p b c):qfb p a c:=
 ⟨k.os.trans h.os,k.tape.trans h.tape,k.output.trans h.output,Nat.le_trans h.size k.size,fun i hi hp=>(k.block i (Nat.lt_of_lt_of_le hi h.size) hp).trans (h.block i hi hp)⟩
theorem qfb.ofBelow(h:Below a.heap.size a b):qfb p a b:=⟨h.os,h.tape,h.output,h.size,fun k hk _=>h.block k hk⟩
theorem qfb.drew(h:qfb p a b):qfb p a b.drew:=⟨h.os,h.tape,h.output,h.size,h.block⟩
theorem qfb.ofTurned(h:qbl p a b):qfb p a b:=by
 have:=h.below 0 a (Nat.zero_le _) (Below.refl _ _)
 exact⟨this.os,this.tape,this.output,this.size,fun k _ hp=>h.other k hp⟩
theorem qfb.turned(h:qfb p a b)(t:qbl r b c)(hr:a.heap.size<=r):qfb p a c:=by
 have:=t.below 0 b (Nat.zero_le _) (Below.refl _ _)
 exact⟨this.os.trans h.os,this.tape.trans h.tape,this.output.trans h.output,Nat.le_trans h.size this.size,fun k hk hp=>(t.other k om).trans (h.block k hk hp)⟩
theorem qfb.below{B:Nat}(h:qfb p a b)(hB:B<=a.heap.size)(hp:B<=p):Below B a b:=⟨h.os,h.tape,h.output,h.size,fun k hk=>h.block k om om⟩
theorem qfb.row(h:qfb p a b)(R:Row t a r cs)(hne:r≠p):Row t b r cs:=(h.block r R.lt hne).trans R
theorem qfb.tab(h:qfb p a b)(T:Tab a)(hp:p≠0):Tab b:=fun j v hv=>by
 have:=T j v hv
 unfold World.cell? at *
 rw[h.block _ T.lt (fun e=>hp e.symm)]
 exact this
end
theorem qcm(R:Row t w b cs)(x:Operand)(ho:o.op=.load 9 x)(hw:Region.wanted o (yielded ops a.tmps)=true)(f:Nat)(hx:a.eval x=V (some ⟨b,f,none⟩))(n:ByteArray)(hc:cs[f]?=some (.string n))(hr:wpList prog ops Q rest (a.put o.dst (.string n)) w):wpList prog ops Q (o::rest) a w:=
 wpList_step fun K hK=>by
  rw[if_pos hw];have hcell:=(R.cell f).trans hc
  unfold Oper.wp execOp
  simp only[ho,hx]
  simp[go_sem,hcell,underlying9]
  exact hK _ _ hr
theorem qdfb(R:Row t w b cs)(x:Operand)(ho:o.op=.load 55 x)(hw:Region.wanted o (yielded ops a.tmps)=true)(f:Nat)(hx:a.eval x=V (some ⟨b,f,none⟩))(v:Value)(hc:cs[f]?=some v)(hr:wpList prog ops Q rest (a.put o.dst v) w):wpList prog ops Q (o::rest) a w:=
 wpList_step fun K hK=>by
  rw[if_pos hw];have hcell:=(R.cell f).trans hc
  unfold Oper.wp execOp
  simp only[ho,hx]
  simp[go_sem,hcell,underlying55]
  exact hK _ _ hr
theorem qeeb(R:Row t w b cs)(hgd:o.guard=none)(x y:Operand)(ho:o.op=.store 9 x y)(f:Nat)(hx:a.eval x=V (some ⟨b,f,none⟩))(n:ByteArray)(hy:a.eval y=.string n)(m:ByteArray)(hc:cs[f]?=some (.string m))(ds:Array Value)(hd:cs.setIfInBounds f (.string n)=ds)(hr:∀w',Row t w' b ds->qbl b w w'->wpList prog ops Q rest (a.put o.dst undef) w'):wpList prog ops Q (o::rest) a w:=
 wpList_plain hgd fun K hK=>by
  refine m6s ?_;intro hcell hfr
  unfold Oper.wp execOp
  simp only[ho,hx,hy]
  simp[go_sem,hcell,hfr,underlying9]
  exact hK _ _ (hr _ (hd▸R.set) (qfx _ _ _ _))
theorem qdab(R:Row t w b cs)(hgd:o.guard=none)(x y:Operand)(ho:o.op=.store 4 x y)(f:Nat)(hx:a.eval x=V (some ⟨b,f,none⟩))(n:Bool)(hy:a.eval y=.bool n)(m:Bool)(hc:cs[f]?=some (.bool m))(ds:Array Value)(hd:cs.setIfInBounds f (.bool n)=ds)(hr:∀w',Row t w' b ds->qbl b w w'->wpList prog ops Q rest (a.put o.dst undef) w'):wpList prog ops Q (o::rest) a w:=
 wpList_plain hgd fun K hK=>by
  refine m6s ?_;intro hcell hfr
  unfold Oper.wp execOp
  simp only[ho,hx,hy]
  simp[go_sem,hcell,hfr,underlying4]
  exact hK _ _ (hr _ (hd▸R.set) (qfx _ _ _ _))
def rc(l:List UInt8)(d:Bool)(v:Value):Array Value:=#[.string (txt l),.bool d,v]
def Rdr(w:World)(p:Nat)(l:List UInt8)(d:Bool)(v:Value):Prop:=Row 109 w p (rc l d v)
theorem qg4b(l m:List UInt8)(d:Bool)(v:Value):(rc l d v).setIfInBounds 0 (.string (txt m))=rc m d v:=rfl
theorem qe2b(l:List UInt8)(d e:Bool)(v:Value):(rc l d v).setIfInBounds 1 (.bool e)=rc l e v:=rfl
theorem qe4b(l:List UInt8)(d:Bool)(v u:Value):(rc l d v).setIfInBounds 2 u=rc l d u:=rfl
theorem qe3b(l:List UInt8)(a b:Nat):(txt l).extract a b=txt ((l.drop a).take (b-a)):=by
 rw[←qmw ((txt l).extract a b)]
 congr 1
 simp[txt]
theorem qdmb(l:List UInt8)(k:Nat):(txt l).extract 0 k=txt (l.take k):=by rw[qe3b];simp
theorem qfnb(l:List UInt8)(k:Nat):(txt l).extract k l.length=txt (l.drop k):=by
 rw[qe3b,List.take_of_length_le (by rw[List.length_drop];omega)]
theorem qeqb(p:Nat)(l:List UInt8)(d:Bool)(v:Value)(k:Nat)(w:World)(R:Rdr w p l d v)(hk:k<=l.length)(hl:l.length<=140737488351232):
  Calls prog 152 #[V (some ⟨p,0,none⟩),I Z (k:Int)] w fun x w'=>x=.returned (.string (txt (l.take k)))/\Rdr w' p (l.drop k) d v/\qfb p w w':=by
 have hsz:(txt l).size=l.length:=qck l;have h1:=qdmb l k;have h2:=qfnb l k;have hM:=qfb.refl p w;(have hk':(k:Int)<=(l.length:Int):=by omega)
 unfold Rdr at R
 go_enter func152,ntmps152
 go_wp2_with (first|((with_reducible refine gL 9 8 ?_);refine m9k ?_)|((with_reducible refine gL 9 15 ?_);refine m9k ?_)|((with_reducible refine gS 9 20 18 ?_);refine qeeb R rfl _ _ rfl 0 rfl (txt (l.drop k)) rfl _ rfl _ (qg4b _ _ _ _) ?_;intro w6 R t6;replace hM:=hM.trans (qfb.ofTurned t6)))
 go_ret
 exact⟨rfl,R,hM⟩
theorem qftb(l:List UInt8)(k j:Nat)(hj:j<k)(h:j<l.length)(h2:j<(txt (l.take k)).size):(txt (l.take k))[j]'h2=l[j]:=(show(l.take k)[j]'(by rw[List.length_take];omega)=l[j] from List.getElem_take)
theorem qefb(l:List UInt8)(j:Nat)(h:j<l.length):num (l.take (j+1))=256*num (l.take j)+(l[j].toNat:Int):=by
 rw[List.take_succ_eq_append_getElem h,qemb]
theorem qg2b(q b:Nat)(hb:b<256):256*q ||| b=256*q+b:=by
 have h:=Nat.shiftLeft_add_eq_or_of_lt (i:=8) (b:=b) om q
 rw[Nat.shiftLeft_eq] at h
 (rw[show 256*q=q*2^8 by omega])
 exact h.symm
theorem qgpb(x:Int)(c:Int)(h0:0<=c)(h1:c<=255):bits .or .i64 (wrap64 (wrap64 x*256)) c=wrap64 (256*x+c):=by
 obtain⟨b,rfl⟩:∃b:Nat,c=b:=⟨c.toNat,by omega⟩
 (have hb:b<256:=by omega);(have hw:wrap64 (wrap64 x*256)=wrap64 (256*x):=by unfold wrap64;omega);rw[hw]
 have e1:(BitVec.ofInt 64 (wrap64 (256*x))).toNat=256*(x%72057594037927936).toNat:=by
  rw[BitVec.toNat_ofInt];unfold wrap64;omega
 (have e2:(BitVec.ofInt 64 (b:Int)).toNat=b:=by rw[BitVec.toNat_ofInt];omega)
 have e5:(BitVec.ofInt 64 (wrap64 (256*x)) ||| BitVec.ofInt 64 (b:Int)).toNat=256*(x%72057594037927936).toNat+b:=by
  rw[BitVec.toNat_or,e1,e2,qg2b _ _ hb]
 unfold bits
 show IntKind.i64.wrap ((BitVec.ofInt 64 (wrap64 (256*x)) ||| BitVec.ofInt 64 (b:Int)).toNat:Int)=_
 rw[e5]
 simp[IntKind.wrap,IntKind.bits,IntKind.signed]
 unfold wrap64
 omega
theorem qdjb(p:Nat)(l:List UInt8)(d:Bool)(v:Value)(k:Nat)(w:World)(R:Rdr w p l d v)(hk:k<=l.length)(hl:l.length<=140737488351232)(hk8:k<=8):
  Calls prog 151 #[V (some ⟨p,0,none⟩),I Z (k:Int)] w fun x w'=>x=.returned (I Z (wrap64 (num (l.take k))))/\Rdr w' p (l.drop k) d v/\qfb p w w':=by
 (have hlen:(l.take k).length=k:=by rw[List.length_take];omega)
 go_enter func151,ntmps151
 go_wp2_with (go_at_call 152;refine(qeqb p l d v k _ R hk hl).mono ?_;rintro x w5 ⟨rfl,R5,hM⟩;obtain⟨C,cap,hconv,hcell⟩:=qfjb (txt (l.take k)) w5;have hsz:(txt (l.take k)).size=k:=(by rw[qck,hlen]);rw[hsz] at hconv)
 have R6:=R5.alloc (.cells C 5 (C.size,C.size+1));replace hM:=hM.trans (qfb.ofBelow ((Below.refl _ _).alloc (Nat.le_refl _) (.cells C 5 (C.size,C.size+1))))
 go_loop [5,13] (fun t i=>∃j:Nat,j<=k/\i=I Z (j:Int)/\t=I Z (wrap64 (num (l.take j)))) (fun _ i=>k-(intOf i).toNat)
 case atStart=>exact⟨0,by omega,rfl,by simp[num,wrap64]⟩
 case round=>
  obtain⟨j,hj,rfl,rfl⟩:=hrel
  by_cases hlt:j<k
  ·(have hjl:j<l.length:=by omega);have HS:Hid (num (l.take (j+1))=256*num (l.take j)+(l[j].toNat:Int)):=qefb l j hjl;have c0:=qje l[j]
   have hc:World.cell? (w5.alloc (.cells C 5 (C.size,C.size+1))) ⟨w5.heap.size,j,none⟩=some (.int .u8 (l[j].toNat:Int)):=by
    have h5:=hcell j (by rw[hsz];exact hlt)
    rw[qftb l k j hlt hjl (by rw[hsz];exact hlt)] at h5
    exact h5
   have HO:Hid (_=wrap64 (256*num (l.take j)+(l[j].toNat:Int))):=qgpb (num (l.take j)) _ c0.1 c0.2;clear hcell
   go_wp2
   go_round
   case rel=>exact⟨j+1,by omega,by go_num,by rw[HO.out,HS.out]⟩
   case measure=>simp[intOf];omega
  ·obtain rfl:j=k:=by omega
   go_wp2
   go_ret
   exact⟨rfl,R6,hM.drew⟩
theorem qdwb{a:Nat}(w:World)(R:Rdr w p (l.drop a) d v)(hk:a+1<=l.length)(hl:l.length<=140737488351232):
  Calls prog 151 #[V (some ⟨p,0,none⟩),I Z 1] w fun x w'=>x=.returned (I Z (nAt l a 1))/\Rdr w' p (l.drop (a+1)) d v/\qfb p w w':=by
 have h:=qdjb p (l.drop a) d v 1 w R (by rw[List.length_drop];omega) (by rw[List.length_drop];omega) om
 rw[List.drop_drop,show wrap64 (num ((l.drop a).take 1))=nAt l a 1 from qdkb (by have:=qc2b l a 1 om;unfold nAt at this;omega) (by have:=qc2b l a 1 om;unfold nAt at this;omega)] at h
 exact h
theorem qc0b{a:Nat}(w:World)(R:Rdr w p (l.drop a) d v)(hk:a+2<=l.length)(hl:l.length<=140737488351232):
  Calls prog 151 #[V (some ⟨p,0,none⟩),I Z 2] w fun x w'=>x=.returned (I Z (nAt l a 2))/\Rdr w' p (l.drop (a+2)) d v/\qfb p w w':=by
 have h:=qdjb p (l.drop a) d v 2 w R (by rw[List.length_drop];omega) (by rw[List.length_drop];omega) om
 rw[List.drop_drop,show wrap64 (num ((l.drop a).take 2))=nAt l a 2 from qdkb (by have:=qc2b l a 2 om;unfold nAt at this;omega) (by have:=qc2b l a 2 om;unfold nAt at this;omega)] at h
 exact h
theorem qc1b{a:Nat}(w:World)(R:Rdr w p (l.drop a) d v)(hk:a+4<=l.length)(hl:l.length<=140737488351232):
  Calls prog 151 #[V (some ⟨p,0,none⟩),I Z 4] w fun x w'=>x=.returned (I Z (nAt l a 4))/\Rdr w' p (l.drop (a+4)) d v/\qfb p w w':=by
 have h:=qdjb p (l.drop a) d v 4 w R (by rw[List.length_drop];omega) (by rw[List.length_drop];omega) om
 rw[List.drop_drop,show wrap64 (num ((l.drop a).take 4))=nAt l a 4 from qdkb (by have:=qc2b l a 4 om;unfold nAt at this;omega) (by have:=qc2b l a 4 om;unfold nAt at this;omega)] at h
 exact h
theorem qdvb{a:Nat}(w:World)(R:Rdr w p (l.drop a) d v)(hk:a+8<=l.length)(hl:l.length<=140737488351232):
  Calls prog 151 #[V (some ⟨p,0,none⟩),I Z 8] w fun x w'=>x=.returned (I Z (wrap64 (nAt l a 8)))/\Rdr w' p (l.drop (a+8)) d v/\qfb p w w':=by
 have h:=qdjb p (l.drop a) d v 8 w R (by rw[List.length_drop];omega) (by rw[List.length_drop];omega) om
 rw[List.drop_drop] at h
 exact h
theorem qdhb{a:Nat}(k:Nat)(w:World)(R:Rdr w p (l.drop a) d v)(hk:a+k<=l.length)(hl:l.length<=140737488351232):
  Calls prog 152 #[V (some ⟨p,0,none⟩),I Z (k:Int)] w fun x w'=>x=.returned (.string (txt ((l.drop a).take k)))/\Rdr w' p (l.drop (a+k)) d v/\qfb p w w':=by
 have h:=qeqb p (l.drop a) d v k w R (by rw[List.length_drop];omega) (by rw[List.length_drop];omega)
 rw[List.drop_drop] at h
 exact h
theorem qdlb(x:Operand)(ho:o.op=.convert 168 9 x)(v:Value)(hx:a.eval x=v)(t:ByteArray)(hrun:(convert 168 9 v).run prog w=.ok (.string t) w)(hr:K (a.put o.dst (.string t)) w):o.wp prog a w K Q:=by
 unfold Oper.wp execOp
 simp only[ho,hx,Sem.run_bind,hrun,Result.andThen_ok,Sem.run_pure]
 exact hr
theorem qdeb(x y:Operand)(ho:o.op=.binOp .eql 9 x y 9)(hw:Region.wanted o (yielded ops a.tmps)=true)(s t:List UInt8)(hx:a.eval x=.string (txt s))(hy:a.eval y=.string (txt t))(b:Bool)(hb:decide (s=t)=b):YieldsIf prog ops S o (.bool b) a:=
 .inl ⟨hw,fun w _=>by
  have e:((txt s).toList==(txt t).toList)=b:=by
   rw[ByteArray.toList_eq,ByteArray.toList_eq,qds,qds,←hb]
   by_cases h:s=t
   ·subst h;simp
   ·simp[h]
  unfold execOp
  simp only[ho,hx,hy]
  simp[go_sem,eqGuard,e]⟩
theorem qfib(w:World):(Instr.build 112 #[]).run prog w=.ok (.agg (ec noE)) w:=by kernel_rfl
theorem qdub{v':Value}(h:Grew v v' w.drew w'):Grew v v' w w':=⟨⟨h.by'.os,h.by'.tape,h.by'.output,h.by'.size,h.by'.block⟩,h.lies⟩
theorem sZtr22{p:Prop}(h:p:=by
 refine tq 7 (.bool true) rfl R5 ?_;refine m1f ?_
 go_wp2
 (refine m03 ?_;refine bodyPost_ret (qbf (p:=2) (u:=3) rfl _ _ _ _ rfl R2 _ underlying112 rfl (qf2 _)) rfl ⟨rfl,R,hM⟩)):p:=h
theorem qfvb(p:Nat)(l:List UInt8)(d:Bool)(v:Value)(w:World)(R:Rdr w p l d v)(hk:21<=l.length)(hl:l.length<=140737488351232)(hr:okR l):
  Calls prog 153 #[V (some ⟨p,0,none⟩)] w fun x w'=>x=.returned (.tuple #[.agg (ec (rdE l)),.bool true])/\Rdr w' p (l.drop 21) d v/\qfb p w w':=by
 have hM:=qfb.refl p w;have hsz:(txt l).size=l.length:=qck l;have h1:=qdmb l 21;(have hk':(21:Int)<=(l.length:Int):=by omega);have q1:=qc2b l 8 4 om;have q2:=qc2b l 12 4 om;have q3:=qc2b l 16 2 om;obtain⟨q10,q11⟩:=q1;obtain⟨q20,q21⟩:=q2;obtain⟨q30,q31⟩:=q3;have hok:=hr.1;(have heq:decide (evB (rdE l)=l.take 21)=true:=by simpa using hr.2);refine m7d ?_;intro CG;clear hr
 go_enter func153,ntmps153
 go_upto_region 11 with(first|((with_reducible refine gA 112 ?_);refine ax 2 112 qr3 ?_;refine m2j ?_;clear R hM;intro b2 w2 g2 R2 hb2 n2 R hM)|((with_reducible refine gA 112 ?_);refine ax 5 112 qr3 ?_;refine m11 ?_;clear R2 R hM;intro b5 w2 R5 hb2 n5 n25 g5 R2 R hM)|((with_reducible refine gL 9 8 ?_);refine m9k ?_)|(go_at_call 151;go_fit (qdvb _ (show Rdr _ p (l.drop 0) d v from R) om hl);refine m09 ?_;clear R hM R2 R5;intro w5 R hM R2 R5)|(go_at_call 151;go_fit (qc1b _ R om hl);refine m09 ?_;clear R hM R2 R5;intro w5 R hM R2 R5)|(go_at_call 151;go_fit (qc0b _ R om hl);refine m09 ?_;clear R hM R2 R5;intro w5 R hM R2 R5)|(go_at_call 151;go_fit (qdwb _ R om hl);refine m09 ?_;clear R hM R2 R5;intro w5 R hM R2 R5)|(go_at_call 152;refine(qdhb 2 _ R om hl).mono ?_;refine m09 ?_;clear R hM R2 R5;intro w5 R hM R2 R5)|((with_reducible refine gS 3 13 12 ?_);refine m5m ?_;refine m0n ?_;clear R2 R hM;intro w6 R5 t6 R2 R hM)|((with_reducible refine gS 3 18 17 ?_);refine m4f ?_;refine m0n ?_;clear R2 R hM;intro w6 R5 t6 R2 R hM)|((with_reducible refine gS 3 23 22 ?_);refine m3n ?_;refine m0n ?_;clear R2 R hM;intro w6 R5 t6 R2 R hM)|((with_reducible refine gS 3 28 27 ?_);refine m2z ?_;refine m0n ?_;clear R2 R hM;intro w6 R5 t6 R2 R hM)|((with_reducible refine gS 4 34 33 ?_);refine m7p ?_;refine m0n ?_;clear R2 R hM;intro w6 R5 t6 R2 R hM)|((with_reducible refine gL 112 5 ?_);refine lx 112 (.tmp 5) (ec (rdE l)) R5 ?_)|(go_at_call 68;go_fit (CG _);rintro x w5 ⟨rfl,hb5⟩;refine m57 ?_;clear R R2 R5 hM;intro R R2 R5 hM))
 refine RD (fun W=>Row 112 W b5 (ec (rdE l))) R5 (fun _=>?_)
 refine tk 0 (.agg (ec (rdE l))) rfl (yx 112 (.tmp 5) (ec (rdE l)) (fun w h=>h)) R5 (tk 1 (.agg (ec (rdE l))) rfl (yx 112 (.tmp 5) (ec (rdE l)) (fun w h=>h)) R5 (tq 4 (.string (txt (l.take 21))) rfl R5 ?_))
 refine m5i ?_;refine AR [2] ?_
 refine AC (fun K hK=>?_) AZ
 go_simp
 go_at_call 183;refine(qvw (base:=0) (rdE l) _ (Bys.nil _ 0) (Nat.zero_le _) zm hok).mono ?_;rintro x w5 ⟨v5,rfl,hO,hG⟩;replace hG:=qdub hG;have hne:=Grew.ne hG (by simp[Value.ownBlock]) R2.lt;have hb5:=Grew.below hG (Nat.le_refl _) (fun k hk=>by simp[Value.ownBlock] at hk);refine m57 ?_;clear R R2 R5 hM;intro R R2 R5 hM
 go_wp2_with fail
 refine hK.out _ _ R5 (fun _=>?_)
 clear hK K;(try simp only[ZZ]);refine AR [3,6] ?_
 refine AP (fun K hK=>?_) ?_
 ·refine qdlb (.tmp 41) rfl _ kr (txt (evB (rdE l))) (q64 hO (by rw[q80];decide)) ?_
  refine hK.out _ _ R5 (fun _=>?_)
  clear hK K;(try simp only[ZZ]);refine tk 5 (.bool true) rfl (qdeb (.tmp 42) (.tmp 43) rfl kr (evB (rdE l)) (l.take 21) kr kr true heq) R5 ?_;refine m5i ?_;refine AR [6] ?_
  refine AP (fun K hK=>?_) AZ
  refine m35 ?_;clear hO R5 R hM;intro w7 R2 t7 hO R5 R hM
  refine hK.out _ _ R5 (fun _=>?_)
  clear hK K;(try simp only[ZZ])
  exact sZtr22
 refine AP (fun K hK=>?_) AZ
 refine m35 ?_;clear hO R5 R hM;intro w7 R2 t7 hO R5 R hM
 refine hK.out _ _ R5 (fun _=>?_)
 clear hK K;(try simp only[ZZ]);refine AR [3] ?_
 refine AP (fun K hK=>?_) AZ
 refine qdlb (.tmp 41) rfl _ kr (txt (evB (rdE l))) (q64 hO (by rw[q80];decide)) ?_
 refine hK.out _ _ R5 (fun _=>?_)
 clear hK K;(try simp only[ZZ]);refine tk 5 (.bool true) rfl (qdeb (.tmp 42) (.tmp 43) rfl kr (evB (rdE l)) (l.take 21) kr kr true heq) R5 ?_;refine m5i ?_
 exact sZtr22
theorem sZtr21{p:Prop}(h:p:=by
 refine tq 7 (.bool false) rfl R5 ?_;refine m1f ?_
 go_wp2
 (refine m03 ?_;refine bodyPost_ret (qbf (p:=2) (u:=3) rfl _ _ _ _ rfl R2 _ underlying112 rfl (qf2 _)) rfl ⟨⟨_,rfl⟩,R,hM⟩)):p:=h
theorem qf8b(p:Nat)(l:List UInt8)(d:Bool)(v:Value)(w:World)(R:Rdr w p l d v)(hk:21<=l.length)(hl:l.length<=140737488351232)(hr:¬okR l):
  Calls prog 153 #[V (some ⟨p,0,none⟩)] w fun x w'=>(∃E:Ev,x=.returned (.tuple #[.agg (ec E),.bool false]))/\Rdr w' p (l.drop 21) d v/\qfb p w w':=by
 have hM:=qfb.refl p w;have hsz:(txt l).size=l.length:=qck l;have h1:=qdmb l 21;(have hk':(21:Int)<=(l.length:Int):=by omega);have q1:=qc2b l 8 4 om;have q2:=qc2b l 12 4 om;have q3:=qc2b l 16 2 om;obtain⟨q10,q11⟩:=q1;obtain⟨q20,q21⟩:=q2;obtain⟨q30,q31⟩:=q3
 by_cases hok:okE (rdE l)
 ·(have heq:decide (evB (rdE l)=l.take 21)=false:=by simp;exact fun h=>hr ⟨hok,h⟩);refine m7d ?_;intro CG;clear hr
  go_enter func153,ntmps153
  go_upto_region 11 with(first|((with_reducible refine gA 112 ?_);refine ax 2 112 qr3 ?_;refine m2j ?_;clear R hM;intro b2 w2 g2 R2 hb2 n2 R hM)|((with_reducible refine gA 112 ?_);refine ax 5 112 qr3 ?_;refine m11 ?_;clear R2 R hM;intro b5 w2 R5 hb2 n5 n25 g5 R2 R hM)|((with_reducible refine gL 9 8 ?_);refine m9k ?_)|(go_at_call 151;go_fit (qdvb _ (show Rdr _ p (l.drop 0) d v from R) om hl);refine m09 ?_;clear R hM R2 R5;intro w5 R hM R2 R5)|(go_at_call 151;go_fit (qc1b _ R om hl);refine m09 ?_;clear R hM R2 R5;intro w5 R hM R2 R5)|(go_at_call 151;go_fit (qc0b _ R om hl);refine m09 ?_;clear R hM R2 R5;intro w5 R hM R2 R5)|(go_at_call 151;go_fit (qdwb _ R om hl);refine m09 ?_;clear R hM R2 R5;intro w5 R hM R2 R5)|(go_at_call 152;refine(qdhb 2 _ R om hl).mono ?_;refine m09 ?_;clear R hM R2 R5;intro w5 R hM R2 R5)|((with_reducible refine gS 3 13 12 ?_);refine m5m ?_;refine m0n ?_;clear R2 R hM;intro w6 R5 t6 R2 R hM)|((with_reducible refine gS 3 18 17 ?_);refine m4f ?_;refine m0n ?_;clear R2 R hM;intro w6 R5 t6 R2 R hM)|((with_reducible refine gS 3 23 22 ?_);refine m3n ?_;refine m0n ?_;clear R2 R hM;intro w6 R5 t6 R2 R hM)|((with_reducible refine gS 3 28 27 ?_);refine m2z ?_;refine m0n ?_;clear R2 R hM;intro w6 R5 t6 R2 R hM)|((with_reducible refine gS 4 34 33 ?_);refine m7p ?_;refine m0n ?_;clear R2 R hM;intro w6 R5 t6 R2 R hM)|((with_reducible refine gL 112 5 ?_);refine lx 112 (.tmp 5) (ec (rdE l)) R5 ?_)|(go_at_call 68;go_fit (CG _);rintro x w5 ⟨rfl,hb5⟩;refine m57 ?_;clear R R2 R5 hM;intro R R2 R5 hM))
  refine RD (fun W=>Row 112 W b5 (ec (rdE l))) R5 (fun _=>?_)
  refine tk 0 (.agg (ec (rdE l))) rfl (yx 112 (.tmp 5) (ec (rdE l)) (fun w h=>h)) R5 (tk 1 (.agg (ec (rdE l))) rfl (yx 112 (.tmp 5) (ec (rdE l)) (fun w h=>h)) R5 (tq 4 (.string (txt (l.take 21))) rfl R5 ?_))
  refine m5i ?_;refine AR [2] ?_
  refine AC (fun K hK=>?_) AZ
  go_simp
  go_at_call 183;refine(qvw (base:=0) (rdE l) _ (Bys.nil _ 0) (Nat.zero_le _) zm hok).mono ?_;rintro x w5 ⟨v5,rfl,hO,hG⟩;replace hG:=qdub hG;have hne:=Grew.ne hG (by simp[Value.ownBlock]) R2.lt;have hb5:=Grew.below hG (Nat.le_refl _) (fun k hk=>by simp[Value.ownBlock] at hk);refine m57 ?_;clear R R2 R5 hM;intro R R2 R5 hM
  go_wp2_with fail
  refine hK.out _ _ R5 (fun _=>?_)
  clear hK K;(try simp only[ZZ]);refine AR [3,6] ?_
  refine AP (fun K hK=>?_) ?_
  ·refine qdlb (.tmp 41) rfl _ kr (txt (evB (rdE l))) (q64 hO (by rw[q80];decide)) ?_
   refine hK.out _ _ R5 (fun _=>?_)
   clear hK K;(try simp only[ZZ]);refine tk 5 (.bool false) rfl (qdeb (.tmp 42) (.tmp 43) rfl kr (evB (rdE l)) (l.take 21) kr kr false heq) R5 ?_;refine m5i ?_;refine AR [6] ?_
   refine AP (fun K hK=>?_) AZ
   refine m35 ?_;clear hO R5 R hM;intro w7 R2 t7 hO R5 R hM
   refine hK.out _ _ R5 (fun _=>?_)
   clear hK K;(try simp only[ZZ])
   exact sZtr21
  refine AP (fun K hK=>?_) AZ
  refine m35 ?_;clear hO R5 R hM;intro w7 R2 t7 hO R5 R hM
  refine hK.out _ _ R5 (fun _=>?_)
  clear hK K;(try simp only[ZZ]);refine AR [3] ?_
  refine AP (fun K hK=>?_) AZ
  refine qdlb (.tmp 41) rfl _ kr (txt (evB (rdE l))) (q64 hO (by rw[q80];decide)) ?_
  refine hK.out _ _ R5 (fun _=>?_)
  clear hK K;(try simp only[ZZ]);refine tk 5 (.bool false) rfl (qdeb (.tmp 42) (.tmp 43) rfl kr (evB (rdE l)) (l.take 21) kr kr false heq) R5 ?_;refine m5i ?_
  exact sZtr21
 ·(have CG:∀w,Calls prog 68 #[.agg (ec (rdE l))] w fun x w'=>x=.returned (I Z 2)/\Below w.heap.size w w':=fun w=>by have:=qro (rdE l) w;rw[qlh hok] at this;exact this);clear hr
  go_enter func153,ntmps153
  go_wp2_with (first|((with_reducible refine gA 112 ?_);refine ax 2 112 qr3 ?_;refine m2j ?_;clear R hM;intro b2 w2 g2 R2 hb2 n2 R hM)|((with_reducible refine gA 112 ?_);refine ax 5 112 qr3 ?_;refine m11 ?_;clear R2 R hM;intro b5 w2 R5 hb2 n5 n25 g5 R2 R hM)|((with_reducible refine gL 9 8 ?_);refine m9k ?_)|(go_at_call 151;go_fit (qdvb _ (show Rdr _ p (l.drop 0) d v from R) om hl);refine m09 ?_;clear R hM R2 R5;intro w5 R hM R2 R5)|(go_at_call 151;go_fit (qc1b _ R om hl);refine m09 ?_;clear R hM R2 R5;intro w5 R hM R2 R5)|(go_at_call 151;go_fit (qc0b _ R om hl);refine m09 ?_;clear R hM R2 R5;intro w5 R hM R2 R5)|(go_at_call 151;go_fit (qdwb _ R om hl);refine m09 ?_;clear R hM R2 R5;intro w5 R hM R2 R5)|(go_at_call 152;refine(qdhb 2 _ R om hl).mono ?_;refine m09 ?_;clear R hM R2 R5;intro w5 R hM R2 R5)|((with_reducible refine gS 3 13 12 ?_);refine m5m ?_;refine m0n ?_;clear R2 R hM;intro w6 R5 t6 R2 R hM)|((with_reducible refine gS 3 18 17 ?_);refine m4f ?_;refine m0n ?_;clear R2 R hM;intro w6 R5 t6 R2 R hM)|((with_reducible refine gS 3 23 22 ?_);refine m3n ?_;refine m0n ?_;clear R2 R hM;intro w6 R5 t6 R2 R hM)|((with_reducible refine gS 3 28 27 ?_);refine m2z ?_;refine m0n ?_;clear R2 R hM;intro w6 R5 t6 R2 R hM)|((with_reducible refine gS 4 34 33 ?_);refine m7p ?_;refine m0n ?_;clear R2 R hM;intro w6 R5 t6 R2 R hM)|((with_reducible refine gL 112 5 ?_);refine lx 112 (.tmp 5) (ec (rdE l)) R5 ?_)|(go_at_call 68;go_fit (CG _);rintro x w5 ⟨rfl,hb5⟩;refine m57 ?_;clear R R2 R5 hM;intro R R2 R5 hM)|((with_reducible refine atOp (.build 112 #[]) rfl ?_);refine qcvb 112 rfl rfl _ qfib ?_)|((with_reducible refine gS 112 2 38 ?_);refine sx 112 (.tmp 2) (.tmp 38) (ec noE) R2 ?_;intro w6 R2 t6;replace R:=t6.row R n2.symm;replace hM:=hM.turned t6 g2))
  (refine m03 ?_;refine bodyPost_ret (qbf (p:=2) (u:=3) rfl _ _ _ _ rfl R2 _ underlying112 rfl (qf2 _)) rfl ⟨⟨_,rfl⟩,R,hM⟩)
def EvO(w:World)(base:Nat)(v:Value)(es:List Ev):Prop:=w.ownsRow base 112 5 v es.length (es.flatMap ecl)
theorem EvO.nil(w:World)(base:Nat):EvO w base (.slice none 0 0) []:=World.ownsRow_nil w base 112 5
theorem EvO.keep(h:EvO w base v es)(hk:∀g,v.ownBlock=some g->w'.heap[g]?=w.heap[g]?):EvO w' base v es:=by
 refine⟨h.1,?_⟩
 rcases h.2 with e|⟨b,cap,cur,hv,hbb,hh,r⟩
 ·exact .inl e
 ·exact .inr ⟨b,cap,cur,hv,hbb,(hk b (by rw[hv];rfl)).trans hh,r⟩
theorem EvO.ge(h:EvO w base v es):∀k,v.ownBlock=some k->base<=k/\k<w.heap.size:=fun k hk=>h.lt k hk
theorem EvO.below(h:EvO w base v es)(hb:Below w.heap.size w w'):EvO w' base v es:=h.keep (fun g hg=>hb.block g (h.ge g hg).2)
theorem EvO.moved(h:EvO w base v es)(hm:qfb p w w')(hp:p<base):EvO w' base v es:=h.keep (fun g hg=>hm.block g (h.ge g hg).2 (by have:=(h.ge g hg).1;omega))
theorem EvO.turned(h:EvO w base v es)(t:qbl b w w')(hne:v.ownBlock≠some b):EvO w' base v es:=h.keep (fun g hg=>t.other g (fun e=>hne (by rw[hg,e])))
theorem EvO.new(h:EvO w base v es)(hb:w.heap.size<=b):v.ownBlock≠some b:=fun e=>by have:=(h.ge b e).2;omega
theorem EvO.slice(h:EvO w base v es):∃a cap,v=.slice a es.length cap:=by
 rcases h.2 with⟨e,n0⟩|⟨b,cap,cur,hv,_⟩
 ·exact⟨none,0,by rw[e,n0]⟩
 ·exact⟨_,_,hv⟩
theorem EvO.at(h:EvO w base v es)(hl:es.length<=3518437208780):EvAt w v es:=by
 rcases h.2 with⟨e,n0⟩|⟨b,cap,cur,hv,hbb,hh,hnc,hcm,hcs,ht⟩
 ·have:es=[]:=List.eq_nil_of_length_eq_zero n0
  subst this
  exact⟨none,0,e,fun h=>absurd h zm,fun j hj=>absurd hj zm,by simp⟩
 ·subst hv
  refine⟨_,_,rfl,fun _=>rfl,fun j hj i u hu=>?_,hl⟩
  (have hi5:i<5:=by have:=(List.getElem?_eq_some_iff.1 hu).1;simpa[ecl] using this)
  show w.cell? ⟨b,0+5*j+i,none⟩=some u
  have e:=(qx0 es j i hj hi5).trans hu
  rw[←ht,List.getElem?_take_of_lt om] at e
  simp only[World.cell?,hh,Nat.zero_add]
  simpa using e
theorem q2i(es:List Ev)(e:Ev):(es++[e]).flatMap ecl=es.flatMap ecl++ecl e:=by rw[List.flatMap_append];simp
theorem q7d(e:Ev)(j:Nat):(ec e)[j]?=(ecl e)[j]?:=by show(ecl e).toArray[j]?=_;simp
theorem q1u(h:EvO w base v es)(R:Row 112 w b (ec e))(hl:es.length<=5000000000)(hbase:base<=w.heap.size)(ty:TypeId):
  ∃v' w',(Builtin.append_ #[55,55] ty #[v,.slice (some ⟨b,0,none⟩) 1 1]).run prog w=.ok v' w'/\EvO w' base v' (es++[e])/\Grew v v' w w':=by
 obtain⟨i0,hi,hz0,hz1,hz2⟩:=info_parts qyu
 obtain⟨v',w',h1,h2,h3,_,h5⟩:=run_append_own_at (P:=prog) w base 55 ty 112 i0 (.agg (ec noE)) 5 40 underlying55 hi hz0 hz1 hz2 rfl (by decide) v es.length (es.flatMap ecl) h ⟨b,0,none⟩ 1 1 (ecl e) rfl
  (fun j u hu=>by rw[Addr.add_lit,Nat.zero_add];exact(R.cell j).trans ((q7d e j).trans hu)) (by intro u hu;simp[ecl] at hu;rcases hu with rfl|rfl|rfl|rfl|rfl<;>rfl) (by unfold maxLen;omega) om hbase
 refine⟨v',w',h1,?_,⟨h3,?_⟩⟩
 ·unfold EvO;rw[q2i,List.length_append];exact h2
 ·rcases h5 with e|e
  ·exact .inl e
  ·exact .inr ⟨_,e,Nat.le_refl _⟩
theorem q0a(e:Ev)(w:World):(Instr.buildSlice 55 1 #[(0,.agg (ec e))]).run prog w=.ok (.slice (some ⟨w.heap.size,0,none⟩) 1 1) (w.alloc (.cells (ec e) 112)):=by
 obtain⟨t,s,a,b,fr⟩:=e
 kernel_rfl
theorem q26(x:Operand)(ho:o.op=.buildSlice 55 1 #[(0,x)])(e:Ev)(hx:a.eval x=.agg (ec e))(hr:∀b w',w.heap.size<=b->Row 112 w' b (ec e)->Below w.heap.size w w'->K (a.put o.dst (.slice (some ⟨b,0,none⟩) 1 1)) w'):o.wp prog a w K Q:=by
 have h':=hr w.heap.size (w.alloc (.cells (ec e) 112)) (Nat.le_refl _) (Row.new _ w _) ((Below.refl _ _).alloc (Nat.le_refl _) _)
 unfold Oper.wp execOp
 simp only[ho,List.map_toArray,List.map_cons,List.map_nil,hx,Sem.run_bind,q0a,Result.andThen_ok,Sem.run_pure]
 exact h'
theorem q45(s x:Operand)(ho:o.op=.call { callee:=.builtin .append,args:=#[s,x],argTypes:=#[55,55] })(h:EvO w base v es)(R:Row 112 w b (ec e))(hs:a.eval s=v)(hx:a.eval x=.slice (some ⟨b,0,none⟩) 1 1)(hl:es.length<=5000000000)(hbase:base<=w.heap.size)(hr:∀v' w',EvO w' base v' (es++[e])->Grew v v' w w'->K (a.put o.dst v') w'):o.wp prog a w K Q:=by
 obtain⟨v',w',h1,h2,h3⟩:=q1u h R hl hbase o.type
 unfold Oper.wp execOp
 simp only[ho,resolve,invoke,builtin,Sem.run_bind,Sem.run_pure,Result.andThen_ok,List.map_toArray,List.map_cons,List.map_nil,hs,hx,h1]
 exact hr v' w' h2 h3
theorem qbj(hgd:o.guard=none)(x:Operand)(ho:o.op=.buildSlice 55 1 #[(0,x)])(e:Ev)(hx:a.eval x=.agg (ec e))(hr:∀b w',w.heap.size<=b->Row 112 w' b (ec e)->Below w.heap.size w w'->wpList prog ops Q rest (a.put o.dst (.slice (some ⟨b,0,none⟩) 1 1)) w'):wpList prog ops Q (o::rest) a w:=
 wpList_plain hgd fun K hK=>q26 x ho e hx (fun b w' h1 h2 h3=>hK _ _ (hr b w' h1 h2 h3))
theorem qwb(hgd:o.guard=none)(s x:Operand)(ho:o.op=.call { callee:=.builtin .append,args:=#[s,x],argTypes:=#[55,55] })(h:EvO w base v es)(R:Row 112 w b (ec e))(hs:a.eval s=v)(hx:a.eval x=.slice (some ⟨b,0,none⟩) 1 1)(hl:es.length<=5000000000)(hbase:base<=w.heap.size)(hr:∀v' w',EvO w' base v' (es++[e])->Grew v v' w w'->wpList prog ops Q rest (a.put o.dst v') w'):wpList prog ops Q (o::rest) a w:=
 wpList_plain hgd fun K hK=>q45 s x ho h R hs hx hl hbase (fun v' w' h1 h2=>hK _ _ (hr v' w' h1 h2))
theorem qedb(R:Row t w b cs)(x y:Operand)(ho:o.op=.store 55 x y)(f:Nat)(hx:a.eval x=V (some ⟨b,f,none⟩))(sa:Option Addr)(n c:Nat)(hy:a.eval y=.slice sa n c)(m:Value)(hc:cs[f]?=some m)(ds:Array Value)(hd:cs.setIfInBounds f (.slice sa n c)=ds)(hr:∀w',Row t w' b ds->qbl b w w'->K (a.put o.dst undef) w'):o.wp prog a w K Q:=by
 refine m6s ?_;intro hcell hfr
 unfold Oper.wp execOp
 simp only[ho,hx,hy]
 simp[go_sem,hcell,hfr,underlying55]
 exact hr _ (hd▸R.set) (qfx _ _ _ _)
theorem qepb(R:Row t w b cs)(x:Operand)(ho:o.op=.load 55 x)(f:Nat)(hx:a.eval x=V (some ⟨b,f,none⟩))(v:Value)(hc:cs[f]?=some v)(hr:K (a.put o.dst v) w):o.wp prog a w K Q:=by
 have hcell:=(R.cell f).trans hc
 unfold Oper.wp execOp
 simp only[ho,hx]
 simp[go_sem,hcell,underlying55]
 exact hr
theorem qc3b(x:Operand)(ho:o.op=.load 55 x)(hw:Region.wanted o (yielded ops a.tmps)=true)(b f:Nat)(hx:a.eval x=V (some ⟨b,f,none⟩))(v:Value)(hS:∀w,S w->w.cell? ⟨b,f,none⟩=some v):YieldsIf prog ops S o v a:=
 .inl ⟨hw,fun w h=>by
  have hcell:=hS w h
  unfold execOp
  simp only[ho,hx]
  simp[go_sem,hcell,underlying55]⟩
theorem qgnb(t q k:Int)(l z:List UInt8)(hl:l.length<=60000)(hq0:0<=q)(hq1:q<=4294967295)(hk0:0<=k)(hk1:k<=300):nAt (msgB t q k l++z) 0 2=10:=by
 have h:=qc4b ([]) (be 10 2) (be (20+(l.length:Int)) 2++(be (t%4294967296) 4++(be q 4++(be 1 4++(be k 2++(be (4+(l.length:Int)) 2++(l++z))))))) 2 (qd8 _ _) 0 (by simp[qd8])
 rw[qc9b] at h
 rw[show msgB t q k l++z=([])++(be 10 2++(be (20+(l.length:Int)) 2++(be (t%4294967296) 4++(be q 4++(be 1 4++(be k 2++(be (4+(l.length:Int)) 2++(l++z)))))))) by simp[msgB],h]
 omega
theorem qd6b(t q k:Int)(l z:List UInt8)(hl:l.length<=60000)(hq0:0<=q)(hq1:q<=4294967295)(hk0:0<=k)(hk1:k<=300):nAt (msgB t q k l++z) 2 2=20+(l.length:Int):=by
 have h:=qc4b (be 10 2) (be (20+(l.length:Int)) 2) (be (t%4294967296) 4++(be q 4++(be 1 4++(be k 2++(be (4+(l.length:Int)) 2++(l++z)))))) 2 (qd8 _ _) 2 (by simp[qd8])
 rw[qc9b] at h
 rw[show msgB t q k l++z=(be 10 2)++(be (20+(l.length:Int)) 2++(be (t%4294967296) 4++(be q 4++(be 1 4++(be k 2++(be (4+(l.length:Int)) 2++(l++z))))))) by simp[msgB],h]
 omega
theorem qgzb(t q k:Int)(l z:List UInt8)(hl:l.length<=60000)(hq0:0<=q)(hq1:q<=4294967295)(hk0:0<=k)(hk1:k<=300):nAt (msgB t q k l++z) 4 4=t%4294967296:=by
 have h:=qc4b (be 10 2++be (20+(l.length:Int)) 2) (be (t%4294967296) 4) (be q 4++(be 1 4++(be k 2++(be (4+(l.length:Int)) 2++(l++z))))) 4 (qd8 _ _) 4 (by simp[qd8])
 rw[qc9b] at h
 rw[show msgB t q k l++z=(be 10 2++be (20+(l.length:Int)) 2)++(be (t%4294967296) 4++(be q 4++(be 1 4++(be k 2++(be (4+(l.length:Int)) 2++(l++z)))))) by simp[msgB],h]
 omega
theorem qe1b(t q k:Int)(l z:List UInt8)(hl:l.length<=60000)(hq0:0<=q)(hq1:q<=4294967295)(hk0:0<=k)(hk1:k<=300):nAt (msgB t q k l++z) 8 4=q:=by
 have h:=qc4b (be 10 2++be (20+(l.length:Int)) 2++be (t%4294967296) 4) (be q 4) (be 1 4++(be k 2++(be (4+(l.length:Int)) 2++(l++z)))) 4 (qd8 _ _) 8 (by simp[qd8])
 rw[qc9b] at h
 rw[show msgB t q k l++z=(be 10 2++be (20+(l.length:Int)) 2++be (t%4294967296) 4)++(be q 4++(be 1 4++(be k 2++(be (4+(l.length:Int)) 2++(l++z))))) by simp[msgB],h]
 omega
theorem qgvb(t q k:Int)(l z:List UInt8)(hl:l.length<=60000)(hq0:0<=q)(hq1:q<=4294967295)(hk0:0<=k)(hk1:k<=300):nAt (msgB t q k l++z) 12 4=1:=by
 have h:=qc4b (be 10 2++be (20+(l.length:Int)) 2++be (t%4294967296) 4++be q 4) (be 1 4) (be k 2++(be (4+(l.length:Int)) 2++(l++z))) 4 (qd8 _ _) 12 (by simp[qd8])
 rw[qc9b] at h
 rw[show msgB t q k l++z=(be 10 2++be (20+(l.length:Int)) 2++be (t%4294967296) 4++be q 4)++(be 1 4++(be k 2++(be (4+(l.length:Int)) 2++(l++z)))) by simp[msgB],h]
 omega
theorem qd8b(t q k:Int)(l z:List UInt8)(hl:l.length<=60000)(hq0:0<=q)(hq1:q<=4294967295)(hk0:0<=k)(hk1:k<=300):nAt (msgB t q k l++z) 16 2=k:=by
 have h:=qc4b (be 10 2++be (20+(l.length:Int)) 2++be (t%4294967296) 4++be q 4++be 1 4) (be k 2) (be (4+(l.length:Int)) 2++(l++z)) 2 (qd8 _ _) 16 (by simp[qd8])
 rw[qc9b] at h
 rw[show msgB t q k l++z=(be 10 2++be (20+(l.length:Int)) 2++be (t%4294967296) 4++be q 4++be 1 4)++(be k 2++(be (4+(l.length:Int)) 2++(l++z))) by simp[msgB],h]
 omega
theorem qgrb(t q k:Int)(l z:List UInt8)(hl:l.length<=60000)(hq0:0<=q)(hq1:q<=4294967295)(hk0:0<=k)(hk1:k<=300):nAt (msgB t q k l++z) 18 2=4+(l.length:Int):=by
 have h:=qc4b (be 10 2++be (20+(l.length:Int)) 2++be (t%4294967296) 4++be q 4++be 1 4++be k 2) (be (4+(l.length:Int)) 2) (l++z) 2 (qd8 _ _) 18 (by simp[qd8])
 rw[qc9b] at h
 rw[show msgB t q k l++z=(be 10 2++be (20+(l.length:Int)) 2++be (t%4294967296) 4++be q 4++be 1 4++be k 2)++(be (4+(l.length:Int)) 2++(l++z)) by simp[msgB],h]
 omega
theorem qeub(t q k:Int)(l z:List UInt8)(hl:l.length<=60000)(hq0:0<=q)(hq1:q<=4294967295)(hk:k=2\/k=300):qctb (msgB t q k l++z)=0:=by
 (have hk0:0<=k:=by omega);(have hk1:k<=300:=by omega);(have hlen:(msgB t q k l++z).length=20+l.length+z.length:=by rw[List.length_append,qlj])
 unfold qctb
 rw[qgnb t q k l z hl hq0 hq1 hk0 hk1,qd6b t q k l z hl hq0 hq1 hk0 hk1,qgvb t q k l z hl hq0 hq1 hk0 hk1,qd8b t q k l z hl hq0 hq1 hk0 hk1,qgrb t q k l z hl hq0 hq1 hk0 hk1,hlen];rw[if_neg om,if_neg om,if_neg om]
theorem qetb(t q k:Int)(l z:List UInt8):(msgB t q k l++z).drop (20+l.length)=z:=by
 rw[←qlj t q k l,List.drop_left]
theorem qf3b(t q k:Int)(l z:List UInt8):(msgB t q k l++z).take (20+l.length)=msgB t q k l:=by
 rw[←qlj t q k l,List.take_left]
theorem qe5b(t q k:Int)(l z:List UInt8):(msgB t q k l++z).drop 20=l++z:=by
 have:msgB t q k l++z=(be 10 2++be (20+(l.length:Int)) 2++be (t%4294967296) 4++be q 4++be 1 4++be k 2++be (4+(l.length:Int)) 2)++(l++z):=by simp[msgB]
 rw[this];(have h20:(be 10 2++be (20+(l.length:Int)) 2++be (t%4294967296) 4++be q 4++be 1 4++be k 2++be (4+(l.length:Int)) 2).length=20:=by simp[qd8]);rw[←h20,List.drop_left]
theorem qgfb(z:List UInt8):qcsb (msgB 0 0 2 (tplB 6)++z) false []=(0,z,true,[]):=by
 have hl:(tplB 6).length=28:=qqi
 unfold qcsb
 rw[if_neg (by rw[qeub 0 0 2 (tplB 6) z om om om (.inl rfl)];decide),qe1b 0 0 2 (tplB 6) z om om om om om,qd8b 0 0 2 (tplB 6) z om om om om om,qd6b 0 0 2 (tplB 6) z om om om om om]
 (rw[if_neg zm,if_pos rfl,show(20+((tplB 6).length:Int)).toNat=20+(tplB 6).length by omega,qf3b,qetb,if_pos zm])
theorem qggb(t:Int)(ps:List Ev)(z:List UInt8)(es:List Ev)(hp:∀e∈ps,okE e/\e.t=t)(hla:qcyb es t=false):evs (t%4294967296) ps.length (setB ps++z) es=some (es++ps):=by
 induction ps generalizing es with
 | nil=>simp[evs]
 | cons e r ih=>
  obtain⟨hk,ht⟩:=hp e zm;(have e1:setB (e::r)++z=evB e++(setB r++z):=by simp[setB]);have hr:=qg6b e hk (setB r++z)
  have hok:okR (evB e++(setB r++z)):=by
   unfold okR;rw[hr];exact⟨hk,by rw[←q80 e,List.take_left]⟩
  rw[e1,List.length_cons,qd4b ⟨hok,by rw[hr,ht],by rw[hr,ht];exact hla⟩,hr,←q80 e,List.drop_left,ih (es++[e]) (fun x hx=>hp x (by simp[hx])) ?_]
  ·simp
  ·unfold qcyb;simp[ht]
theorem qg0b(t:Int)(ps es:List Ev)(z:List UInt8)(hp:∀e∈ps,okE e/\e.t=t)(h0:0<ps.length)(h64:ps.length<=64)(hes:es.length<=100000)(hla:qcyb es t=false):qcsb (msgB t (es.length:Int) 300 (setB ps)++z) true es=(0,z,true,es++ps):=by
 have hl:(setB ps).length=21*ps.length:=qnn ps;(have q0:(0:Int)<=(es.length:Int):=by omega);(have q1:(es.length:Int)<=4294967295:=by omega);have a1:=qd6b t (es.length:Int) 300 (setB ps) z om q0 q1 om om
 unfold qcsb
 rw[if_neg (by rw[qeub t _ 300 (setB ps) z om q0 q1 (.inr rfl)];decide),qe1b t _ 300 (setB ps) z om q0 q1 om om,qd8b t _ 300 (setB ps) z om q0 q1 om om,a1,qgzb t _ 300 (setB ps) z om q0 q1 om om]
 (rw[if_neg zm,if_neg (by decide),if_neg zm,if_neg om,show((20+((setB ps).length:Int)-20)/21).toNat=ps.length by omega,qe5b,qggb t ps z es hp hla,show(20+((setB ps).length:Int)).toNat=20+(setB ps).length by omega,qetb])
def qdyb(S:List UInt8)(all:List Ev):Prop:=
 ∃P m d0 es0 t q k l,S=P++msgB t q k l/\m<=P.length/\(∀n z,runM (n+m) (P++z) false []=runM n z d0 es0)/\(∀z,qcsb (msgB t q k l++z) d0 es0=(0,z,true,all))/\0<l.length/\l.length<=60000/\0<=q/\q<=4294967295/\(k=2\/k=300)
theorem qf9b:qdyb (msgB 0 0 2 (tplB 6)) []:=by
 have hl:(tplB 6).length=28:=qqi
 exact⟨[],0,false,[],0,0,2,tplB 6,rfl,Nat.le_refl _,fun n z=>rfl,qgfb,by omega,by omega,by omega,by omega,.inl rfl⟩
theorem qenb(t q k:Int)(l z:List UInt8)(d:Bool)(es all:List Ev)(h:qcsb (msgB t q k l++z) d es=(0,z,true,all))(n:Nat):runM (n+1) (msgB t q k l++z) d es=runM n z true all:=
 qd9b n _ d es (by rw[List.length_append,qlj];omega) h
theorem qeab{S:List UInt8}(h:qdyb S all)(t:Int)(ps:List Ev)(hp:∀e∈ps,okE e/\e.t=t)(h0:0<ps.length)(h64:ps.length<=64)(hes:all.length<=100000)(hla:qcyb all t=false):qdyb (S++msgB t (all.length:Int) 300 (setB ps)) (all++ps):=by
 obtain⟨P,m,d0,es0,t0,q0,k0,l0,hS,hm,hP,hst,_⟩:=h
 have hl:(setB ps).length=21*ps.length:=qnn ps
 refine⟨S,m+1,true,all,t,(all.length:Int),300,setB ps,rfl,?_,fun n z=>?_,fun z=>qg0b t ps all z hp h0 h64 hes hla,by omega,by omega,by omega,by omega,.inr rfl⟩
 ·rw[hS,List.length_append,qlj];omega
 ·(rw[hS,List.append_assoc,show n+(m+1)=(n+1)+m by omega,hP,qenb _ _ _ _ _ _ _ _ (hst z)])
theorem qfyb{S:List UInt8}(h:qdyb S all):runM S.length S false []=(0,all):=by
 obtain⟨P,m,d0,es0,t,q,k,l,hS,hm,hP,hst,_⟩:=h
 (have hlen:S.length=P.length+(20+l.length):=by rw[hS,List.length_append,qlj])
 obtain⟨n,hn⟩:∃n,S.length=(n+1)+m:=⟨S.length-m-1,by omega⟩
 rw[hn,hS,hP]
 have:=qenb t q k l [] d0 es0 all (hst []) n
 rw[List.append_nil] at this
 rw[this,qelb _ _ _ _ rfl]
theorem qdsb(p:Nat)(l:List UInt8)(d:Bool)(v:Value)(es:List Ev)(t:Int)(w:World)(R:Rdr w p l d v)(hE:EvAt w v es):
  Calls prog 155 #[V (some ⟨p,0,none⟩),I Z t] w fun x w'=>x=.returned (.bool (qcyb es t))/\w'=w:=by
 obtain⟨a0,cap,hsl⟩:=hE.slice;have hlen:=hE.len
 unfold Rdr at R
 by_cases h0:es.length=0
 ·(have HL:Hid (qcyb es t=false):=by show _=_;rw[List.eq_nil_of_length_eq_zero h0];rfl)
  obtain⟨n,hn⟩:∃n,n=es.length:=⟨_,rfl⟩
  rw[←hn] at hsl
  subst hsl
  (have h0':¬0<n:=by omega);clear h0 hlen hn
  go_enter func155,ntmps155
  go_wp2_with (first|((with_reducible refine gL 55 8 ?_);refine qdfb R _ rfl rfl 2 rfl (.slice a0 n cap) rfl ?_))
  go_ret
  exact⟨by rw[HL.out];rfl,rfl⟩
 ·obtain⟨e,he⟩:∃e,es[es.length-1]'om=e:=⟨_,rfl⟩
  have HL:Hid (qcyb es t=decide (t<e.t)):=qfkb om t he;have IR:=hE.index (es.length-1) om w;have hc:=hE.at (es.length-1) om he 0 _ rfl
  obtain⟨n,hn⟩:∃n,n=es.length:=⟨_,rfl⟩
  rw[←hn] at hsl IR hc hlen
  subst hsl
  (have h0':0<n:=by omega);(have hn1:(n:Int)-1=((n-1:Nat):Int):=by omega)
  rw[←hn1] at IR
  (have hw1:wrap64 ((n:Int)-1)=(n:Int)-1:=by unfold wrap64;omega);clear he h0 hn hn1
  go_enter func155,ntmps155
  go_wp2_with (first|((with_reducible refine gL 55 8 ?_);refine qdfb R _ rfl rfl 2 rfl (.slice a0 n cap) rfl ?_)|((with_reducible refine gL 55 16 ?_);refine qdfb R _ rfl ?_ 2 rfl (.slice a0 n cap) rfl ?_;· rfl)|((with_reducible refine atOp (.indexAddr 55 (.tmp 17) (.tmp 19)) rfl ?_);refine qh0 55 (.tmp 17) (.tmp 19) rfl ?_ _ _ _ rfl rfl IR ?_;· rfl)|((with_reducible refine gL 3 21 ?_);refine qvf (.tmp 21) rfl ?_ _ _ rfl _ hc ?_;· rfl))
  go_ret
  exact⟨by rw[HL.out];rfl,rfl⟩
def hdc(len time seq kind:Int):Array Value:=#[I Z len,I Z time,I Z seq,I Z kind]
theorem qcqb(a b c d:Int):(prog.info? 157).map (·.size)=some (hdc a b c d).size:=by kernel_rfl
theorem qcwb(a b c d:Int):(hdc a b c d).all (·.oneCell')=true:=by kernel_rfl
theorem qcrb(w:World):(zeroValue 157).run prog w=.ok (.agg (hdc 0 0 0 0)) w:=by kernel_rfl
theorem qc5b(w:World):(Instr.build 157 #[]).run prog w=.ok (.agg (hdc 0 0 0 0)) w:=by kernel_rfl
theorem qewb(p:Nat)(l m:List UInt8)(d:Bool)(v:Value)(len time seq kind:Int)(w:World)(R:Rdr w p (l.drop 20) d v)(hT:Tab w)(hp:p≠0)(hk0:20<=len)(hk1:len<=(l.length:Int))(hl:l.length<=140737488351232)(hq:qi0 seq=true)(hm:m≠msgB 0 seq 2 (tplB 6)):
  Calls prog 107 #[V (some ⟨p,0,none⟩),.string (txt m),.agg (hdc len time seq kind)] w fun x w'=>x=.returned (I Z 4)/\qfb p w w':=by
 refine m4y ?_;intro hM CT;(have hne:(txt m).toList≠(txt (msgB 0 seq 2 (tplB 6))).toList:=by rw[ByteArray.toList_eq,ByteArray.toList_eq,qds,qds];exact hm);(have hne':((txt m).toList==(txt (msgB 0 seq 2 (tplB 6))).toList)=false:=by simpa using hne);clear hm hne
 generalize msgB 0 seq 2 (tplB 6)=M at *
 obtain⟨k,rfl⟩:∃k:Nat,len=20+(k:Int):=⟨(len-20).toNat,by omega⟩
 refine m9h ?_;intro hkl HKT hkk hks;clear hq hk0 hk1
 go_enter func107,ntmps107
 go_wp2_with (first|((with_reducible refine gB 157 2 ?_);refine bx 157 _ (hdc (20+(k:Int)) time seq kind) ?_;intro b5 w2 g5 R5 hb2;have n5:b5≠p:=(fun e=>by have:=R.lt;omega);replace R:=Row.below R hb2;replace hT:=hT.below hb2;replace hM:=hM.trans (qfb.ofBelow hb2))|((with_reducible refine gL 3 10 ?_);refine fx R5 _ 2 _ ?_)|((with_reducible refine gL 3 19 ?_);refine fx R5 _ 0 _ ?_)|(go_at_call 149;go_fit (CT _ hT);rintro x w5 ⟨rfl,hb5⟩;replace R:=Row.below R hb5;replace R5:=R5.below hb5;replace hM:=hM.trans (qfb.ofBelow hb5))|(go_at_call 152;go_fit (qdhb k _ R hkl hl);rintro x w5 ⟨rfl,R',hM5⟩;replace R:=R';clear R';replace hM:=hM.trans hM5;clear hM5)|((with_reducible refine atOp (.store 4 (.tmp 25) (.const (.bool true))) rfl ?_);refine qdab R rfl _ _ rfl 1 rfl true rfl _ rfl _ (qe2b _ _ _ _) ?_;intro w6 R t6;replace hM:=hM.trans (qfb.ofTurned t6)))
 go_ret
 exact⟨rfl,hM⟩
theorem qejb(p:Nat)(l m:List UInt8)(d:Bool)(v:Value)(len time seq kind:Int)(w:World)(R:Rdr w p (l.drop 20) d v)(hT:Tab w)(hp:p≠0)(hk0:20<=len)(hk1:len<=(l.length:Int))(hl:l.length<=140737488351232)(hq:qi0 seq=true)(hm:m=msgB 0 seq 2 (tplB 6)):
  Calls prog 107 #[V (some ⟨p,0,none⟩),.string (txt m),.agg (hdc len time seq kind)] w fun x w'=>(x=.returned (I Z 0)/\Rdr w' p (l.drop len.toNat) true v)/\qfb p w w':=by
 refine m4y ?_;intro hM CT
 subst hm
 (have hne':((txt (msgB 0 seq 2 (tplB 6))).toList==(txt (msgB 0 seq 2 (tplB 6))).toList)=true:=by simp)
 generalize msgB 0 seq 2 (tplB 6)=M at *
 obtain⟨k,rfl⟩:∃k:Nat,len=20+(k:Int):=⟨(len-20).toNat,by omega⟩
 refine m9h ?_;intro hkl HKT hkk hks;clear hq hk0 hk1
 go_enter func107,ntmps107
 go_wp2_with (first|((with_reducible refine gB 157 2 ?_);refine bx 157 _ (hdc (20+(k:Int)) time seq kind) ?_;intro b5 w2 g5 R5 hb2;have n5:b5≠p:=(fun e=>by have:=R.lt;omega);replace R:=Row.below R hb2;replace hT:=hT.below hb2;replace hM:=hM.trans (qfb.ofBelow hb2))|((with_reducible refine gL 3 10 ?_);refine fx R5 _ 2 _ ?_)|((with_reducible refine gL 3 19 ?_);refine fx R5 _ 0 _ ?_)|(go_at_call 149;go_fit (CT _ hT);rintro x w5 ⟨rfl,hb5⟩;replace R:=Row.below R hb5;replace R5:=R5.below hb5;replace hM:=hM.trans (qfb.ofBelow hb5))|(go_at_call 152;go_fit (qdhb k _ R hkl hl);rintro x w5 ⟨rfl,R',hM5⟩;replace R:=R';clear R';replace hM:=hM.trans hM5;clear hM5)|((with_reducible refine atOp (.store 4 (.tmp 25) (.const (.bool true))) rfl ?_);refine qdab R rfl _ _ rfl 1 rfl true rfl _ rfl _ (qe2b _ _ _ _) ?_;intro w6 R t6;replace hM:=hM.trans (qfb.ofTurned t6)))
 go_ret
 exact⟨⟨rfl,by rw[HKT.out];exact R⟩,hM⟩
end Go.Proofs.YtonnjgmognbnbaaGreatDoor
