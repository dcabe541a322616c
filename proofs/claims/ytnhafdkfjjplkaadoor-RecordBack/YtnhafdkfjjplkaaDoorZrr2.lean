/-
  Of what a law stands on.
-/
import Derived.Test.YtnhafdkfjjplkaaDoorZrr1
set_option linter.unusedSimpArgs false
set_option linter.unusedVariables false
namespace Go.Proofs.YtnhafdkfjjplkaaDoor
open Go.Value renaming int → I,pointer → V
open Go.IntKind renaming i64 → Z
open _root_.Go.Proofs.Tryd Go.ChangeShapes Go.WideShapes Go.ChangeAt Go.RowKit
set_option maxHeartbeats 16000000
set_option maxRecDepth 100000
variable {w w':World}{ops:Array Oper}{S:World->Prop}{o:Oper}{a:Act}{b base c p r:Nat}{l:List UInt8}{e:Ev}{es es':List Ev}{time:Int}{t:TypeId}{cs:Array Value}{rest:List Oper}{Q:Exit->Act->World->Prop}{d:Bool}{v:Value}{K:Act->World->Prop}
theorem q05b(h:Tab w):Tab w.drew:=h
theorem q0fb(x y:Operand)(ho:o.op=.binOp .eql 9 x y 9)(hw:Region.wanted o (yielded ops a.tmps)=true)(s:ByteArray)(hx:a.eval x=.string s)(hy:a.eval y=.string s):YieldsIf prog ops S o (.bool true) a:=
 .inl ⟨hw,fun w _=>by unfold execOp;simp only[ho,hx,hy];simp[go_sem,eqGuard]⟩
theorem sZrr21{p:Prop}(h:p:=by
 simp only[ZZ];refine tq 32 (.bool true) rfl ⟨hM,hT⟩ (tq 33 (.bool true) rfl ⟨hM,hT⟩ (tq 34 (.bool true) rfl ⟨hM,hT⟩ ?_));simp only[ZZ];refine AR [35] ?_
 refine AC (fun K hK=>?_) ?_
 ·go_simp
  go_at_call 14;(first|refine(q0db _ hT).mono ?_|refine(q0db _ (q05b hT)).mono ?_);refine m2h ?_;clear hM hT;intro w5 hb5 hM hT hB
  go_wp2_with fail
  refine hK.out _ _ ⟨hM,hT⟩ (fun _=>?_)
  clear hK K;(try simp only[ZZ]);refine tq 36 (.bool true) rfl ⟨hM,hT⟩ (tq 37 (.bool true) rfl ⟨hM,hT⟩ ?_);refine m1r ?_
  go_wp2
  go_ret
  exact⟨rfl,hB⟩
 exact AZ):p:=h
theorem recordTells_walk(seq:Int)(sl:Value)(es:List Ev)(w:World)(hq:(Lit.int .i64 seq).wf=true)(hM:EvAt w sl es)(hT:Tab w):Calls prog 3 #[.int .i64 seq,sl] w fun x w'=>x=.returned (.bool true)/\Below w.heap.size w w':=by
 refine m2b ?_;intro hB;(have C1:=fun(sl:Value) (w:World) (h:EvAt w sl es)=>qwm seq sl es w h);(have C2:=fun(sl:Value) (w:World) (h:EvAt w sl es)=>qskb seq sl es w h);(have C3:=fun(w:World) (h:Tab w)=>qu3 seq w h);(have C4:=fun(w:World)=>qmsb seq w)
 unfold mesS at C1 C2
 unfold msgS at C3 C4
 generalize mesT seq es=T at C1 C2
 generalize mesE seq es=E at C1 C2
 generalize msgT 0 seq 2 (tplB 6)=U at C3 C4
 generalize msgE seq=G at C3 C4
 obtain⟨a0,cap,hsl⟩:=hM.slice
 obtain⟨n,hn⟩:∃n,n=es.length:=⟨_,rfl⟩
 rw[←hn] at hsl
 subst hsl
 have hlt:=hM.lt
 by_cases h0:n=0
 ·(have hz:((n:Int)==0)=true:=by simp;omega);clear h0 hn
  go_enter func3,ntmps3
  go_upto_region 5 with(first|(at_builtin;refine q0pb rfl (.const (.slice none 0 0)) (.tmp 15) rfl _ es hM rfl rfl ?_;intro v2 w2 hM2 hb2;replace hT:=hT.below hb2;replace hM:=hM.below hb2;replace hB:=hB.trans (hb2.mono hB.size))|(go_at_call 8;refine(C1 _ _ hM2).mono ?_;refine m0y ?_;clear hT hM hB;intro w5 hb5 hT hM hB)|(go_at_call 9;refine(C2 _ _ hM).mono ?_;refine m0y ?_;clear hT hM hB;intro w5 hb5 hT hM hB)|(go_at_call 10;refine(C3 _ hT).mono ?_;refine m0y ?_;clear hT hM hB;intro w5 hb5 hT hM hB)|(go_at_call 11;refine(C4 _).mono ?_;refine m0y ?_;clear hT hM hB;intro w5 hb5 hT hM hB))
  refine RD (fun W=>EvAt W (.slice a0 n cap) es/\Tab W) ⟨hM,hT⟩ (fun _=>?_)
  refine m03 ?_;refine tk 21 (.bool true) rfl (qmnb 3 (.tmp 56) (.const (.int .i64 0)) (n:Int) 0 true rfl kr kr kr hz) ⟨hM,hT⟩ (tq 22 (.bool true) rfl ⟨hM,hT⟩ (tk 23 undef rfl (Or.inr ⟨by kernel_rfl,rfl⟩) ⟨hM,hT⟩ ?_));simp only[ZZ];refine tk 24 undef rfl (Or.inr ⟨by kernel_rfl,rfl⟩) ⟨hM,hT⟩ (tk 25 undef rfl (Or.inr ⟨by kernel_rfl,rfl⟩) ⟨hM,hT⟩ (tk 27 undef rfl (Or.inr ⟨by kernel_rfl,rfl⟩) ⟨hM,hT⟩ ?_));simp only[ZZ];refine tk 28 undef rfl (Or.inr ⟨by kernel_rfl,rfl⟩) ⟨hM,hT⟩ (tk 29 undef rfl (Or.inr ⟨by kernel_rfl,rfl⟩) ⟨hM,hT⟩ ?_);simp only[ZZ];refine AR [26] ?_
  refine AC (fun K hK=>?_) AZ
  rw[if_neg (ne_true_of_eq_false kr)]
  refine hK.out _ _ ⟨hM,hT⟩ (fun _=>?_)
  clear hK K;(try simp only[ZZ]);refine AR [30] ?_
  refine AC (fun K hK=>?_) AZ
  rw[if_neg (ne_true_of_eq_false kr)]
  refine hK.out _ _ ⟨hM,hT⟩ (fun _=>?_)
  clear hK K;(try simp only[ZZ]);refine tk 31 undef rfl (Or.inr ⟨by kernel_rfl,rfl⟩) ⟨hM,hT⟩ ?_
  exact sZrr21
 ·(have hz:((n:Int)==0)=false:=by simp;omega);(have hl0:0<es.length:=by omega);(have I0:=fun w2=>hM.index0 hl0 w2)
  obtain⟨e0,he0⟩:∃e,es[0]=e:=⟨_,rfl⟩
  clear h0 hn
  go_enter func3,ntmps3
  go_upto_region 5 with(first|(at_builtin;refine q0pb rfl (.const (.slice none 0 0)) (.tmp 15) rfl _ es hM rfl rfl ?_;intro v2 w2 hM2 hb2;replace hT:=hT.below hb2;replace hM:=hM.below hb2;replace hB:=hB.trans (hb2.mono hB.size))|(go_at_call 8;refine(C1 _ _ hM2).mono ?_;refine m0y ?_;clear hT hM hB;intro w5 hb5 hT hM hB)|(go_at_call 9;refine(C2 _ _ hM).mono ?_;refine m0y ?_;clear hT hM hB;intro w5 hb5 hT hM hB)|(go_at_call 10;refine(C3 _ hT).mono ?_;refine m0y ?_;clear hT hM hB;intro w5 hb5 hT hM hB)|(go_at_call 11;refine(C4 _).mono ?_;refine m0y ?_;clear hT hM hB;intro w5 hb5 hT hM hB))
  refine RD (fun W=>EvAt W (.slice a0 n cap) es/\Tab W) ⟨hM,hT⟩ (fun _=>?_)
  refine m03 ?_;refine tk 21 (.bool false) rfl (qmnb 3 (.tmp 56) (.const (.int .i64 0)) (n:Int) 0 false rfl kr kr kr hz) ⟨hM,hT⟩ (tq 22 (.bool false) rfl ⟨hM,hT⟩ (tq 23 (.slice a0 n cap) rfl ⟨hM,hT⟩ ?_));simp only[ZZ]
  refine tk 24 (.pointer (some ⟨eb (.slice a0 n cap),eo (.slice a0 n cap),none⟩)) rfl (qgk 22 (.tmp 59) (.const (.int .i64 0)) rfl kr _ _ _ kr kr I0) ⟨hM,hT⟩ (tk 25 (.agg (ec e0)) rfl (qz8b (.tmp 60) rfl kr (eb (.slice a0 n cap)) (eo (.slice a0 n cap)) kr e0 (fun w h=>h.1.at 0 hl0 he0)) ⟨hM,hT⟩ (tq 27 (.slice a0 n cap) rfl ⟨hM,hT⟩ ?_))
  simp only[ZZ]
  refine tk 28 (.pointer (some ⟨eb (.slice a0 n cap),eo (.slice a0 n cap),none⟩)) rfl (qgk 22 (.tmp 63) (.const (.int .i64 0)) rfl kr _ _ _ kr kr I0) ⟨hM,hT⟩ (tk 29 (.agg (ec e0)) rfl (qz8b (.tmp 64) rfl kr (eb (.slice a0 n cap)) (eo (.slice a0 n cap)) kr e0 (fun w h=>h.1.at 0 hl0 he0)) ⟨hM,hT⟩ ?_)
  simp only[ZZ];refine AR [26] ?_
  refine AC (fun K hK=>?_) AZ
  go_simp;go_at_call 12;refine(qro e0 _).mono ?_;refine m2h ?_;clear hM hT hB;intro w5 hb5 hM hT hB
  go_wp2_with fail
  refine hK.out _ _ ⟨hM,hT⟩ (fun _=>?_)
  clear hK K;(try simp only[ZZ]);refine AR [30] ?_
  refine AC (fun K hK=>?_) AZ
  go_simp;go_at_call 13;refine(qshb e0 _).mono ?_;refine m2h ?_;clear hM hT hB;intro w5 hb5 hM hT hB
  go_wp2_with fail
  refine hK.out _ _ ⟨hM,hT⟩ (fun _=>?_)
  clear hK K;(try simp only[ZZ]);refine tk 31 (.bool true) rfl (qmnb 23 (.tmp 62) (.tmp 66) (ql8 e0) (ql8 e0) true rfl kr kr kr zm) ⟨hM,hT⟩ ?_
  exact sZrr21
theorem q2bb(e:Ev)(w:World):(Op.equalIn 10000 29 (.agg (ec e)) (.agg (ec e))).run prog w=.ok true w:=by
 rw[show(10000:Nat)=9999+1 from rfl,run_equalIn_struct w 9999 29 _ _ kr kr]
 unfold ec
 simp[go_sem,underlying29]
theorem q0zb(x y:Operand)(ho:o.op=.binOp .neq 29 x y 29)(hw:Region.wanted o (yielded ops a.tmps)=true)(e:Ev)(hx:a.eval x=.agg (ec e))(hy:a.eval y=.agg (ec e)):YieldsIf prog ops S o (.bool false) a:=
 .inl ⟨hw,fun w _=>by
  unfold execOp
  simp only[ho,hx,hy,Sem.run_bind,run_eqGuard_agg w .neq 29 x y _ _ eqGuardType29,run_neq_struct,q2bb e w,Result.andThen_ok,Sem.run_pure,Bool.not_true]⟩
theorem qgab(l:List UInt8)(n:Int)(h:0<=n):0<=l.foldl (fun n c=>256*n+(c.toNat:Int)) n/\l.foldl (fun n c=>256*n+(c.toNat:Int)) n<(n+1)*256^l.length:=by
 induction l generalizing n with
 | nil=>simp;omega
 | cons c r ih=>
  have hc:=qje c
  have:=ih (256*n+(c.toNat:Int)) om
  rw[List.foldl_cons,List.length_cons,Int.pow_succ]
  refine⟨this.1,Int.lt_of_lt_of_le this.2 ?_⟩
  (have h1:(256*n+(c.toNat:Int)+1)<=(n+1)*256:=by omega);have h2:(0:Int)<=256^r.length:=Int.pow_nonneg (by decide)
  have:=Int.mul_le_mul_of_nonneg_right h1 h2
  rw[Int.mul_comm (256^r.length) 256,←Int.mul_assoc]
  exact this
theorem qfrb(l:List UInt8):0<=num l/\num l<256^l.length:=by
 have:=qgab l 0 om
 simpa[num] using this
theorem qg1b{k:Nat}(h:l.length<=k)(hk:k<=4):0<=num l/\num l<=4294967295:=by
 have h0:=qfrb l
 refine⟨h0.1,?_⟩
 rcases(show l.length=0\/l.length=1\/l.length=2\/l.length=3\/l.length=4 by omega) with e|e|e|e|e<;>rw[e] at h0<;>simp at h0<;>omega
theorem qgqb(h:l.length<=2):num l<=65535:=by
 have h0:=qfrb l
 rcases(show l.length=0\/l.length=1\/l.length=2 by omega) with e|e|e<;>rw[e] at h0<;>simp at h0<;>omega
theorem qdkb{x:Int}(h0:-9223372036854775808<=x)(h1:x<=9223372036854775807):wrap64 x=x:=by unfold wrap64;omega
theorem qc9b(v:Int)(n:Nat):num (be v n)=v%256^n:=by
 induction n generalizing v with
 | zero=>simp[be,num]
 | succ n ih=>
  unfold be
  rw[qemb,ih,qc1,Int.pow_succ];have h2:(0:Int)<256^n:=Int.pow_pos (by decide)
  generalize(256:Int) ^ n=m at *
  have e1:=Int.emod_add_mul_ediv v 256;have e2:=Int.emod_add_mul_ediv (v/256) m;have e3:=Int.emod_nonneg (v/256) (b:=m) om;have e4:=Int.emod_lt_of_pos (v/256) h2;have e5:=Int.emod_nonneg v (b:=256) (by decide);have e6:=Int.emod_lt_of_pos v (b:=256) (by decide)
  have key:v=(256*((v/256)%m)+v%256)+(m*256)*((v/256)/m):=by
   have:256*(v/256)=256*((v/256)%m)+(m*256)*((v/256)/m):=by
    conv=>lhs;rw[←e2]
    rw[Int.mul_add,Int.mul_comm m 256,Int.mul_assoc]
   omega
  (have hb:0<=256*((v/256)%m)+v%256:=by omega);(have hl:256*((v/256)%m)+v%256<m*256:=by omega)
  conv=>rhs;rw[key]
  rw[Int.add_mul_emod_self_left,Int.emod_eq_of_lt hb hl]
def nAt(l:List UInt8)(a k:Nat):Int:=num ((l.drop a).take k)
theorem qc2b(l:List UInt8)(a k:Nat)(hk:k<=4):0<=nAt l a k/\nAt l a k<=4294967295:=qg1b (k:=k) (by rw[List.length_take];omega) hk
theorem qgsb(l:List UInt8)(a:Nat):nAt l a 2<=65535:=qgqb (by rw[List.length_take];omega)
def rdE(l:List UInt8):Ev:=⟨wrap64 (nAt l 0 8),nAt l 8 4-167772160-1,nAt l 12 4-3405803776-1,(nAt l 16 2-1024).tdiv 8,nAt l 20 1==2⟩
def okR(l:List UInt8):Prop:=okE (rdE l)/\evB (rdE l)=l.take 21
theorem qc4b(x y z:List UInt8)(k:Nat)(hy:y.length=k)(a:Nat)(ha:x.length=a):nAt (x++(y++z)) a k=num y:=by
 unfold nAt
 rw[←ha,List.drop_left,←hy,List.take_left]
theorem qg6b(e:Ev)(h:okE e)(z:List UInt8):rdE (evB e++z)=e:=by
 obtain⟨⟨t0,t1⟩,⟨s0,s1⟩,⟨a0,a1⟩,b0,b1⟩:=h;have hk:=qadb e
 have e0:nAt (evB e++z) 0 8=e.t:=by
  have:=qc4b [] (be e.t 8) (be (167772161+e.s) 4++be (3405803777+e.a) 4++be (1024+e.b*8) 2++be (1024+e.b*8+8-1) 2++be (mkE e) 1++z) 8 (qd8 _ _) 0 rfl
  rw[qc9b] at this
  rw[show evB e++z=[]++(be e.t 8++(be (167772161+e.s) 4++be (3405803777+e.a) 4++be (1024+e.b*8) 2++be (1024+e.b*8+8-1) 2++be (mkE e) 1++z)) by simp[evB],this]
  omega
 have e1:nAt (evB e++z) 8 4=167772161+e.s:=by
  have:=qc4b (be e.t 8) (be (167772161+e.s) 4) (be (3405803777+e.a) 4++be (1024+e.b*8) 2++be (1024+e.b*8+8-1) 2++be (mkE e) 1++z) 4 (qd8 _ _) 8 (qd8 _ _)
  rw[qc9b] at this
  rw[show evB e++z=be e.t 8++(be (167772161+e.s) 4++(be (3405803777+e.a) 4++be (1024+e.b*8) 2++be (1024+e.b*8+8-1) 2++be (mkE e) 1++z)) by simp[evB],this]
  omega
 have e2:nAt (evB e++z) 12 4=3405803777+e.a:=by
  have:=qc4b (be e.t 8++be (167772161+e.s) 4) (be (3405803777+e.a) 4) (be (1024+e.b*8) 2++be (1024+e.b*8+8-1) 2++be (mkE e) 1++z) 4 (qd8 _ _) 12 (by simp[qd8])
  rw[qc9b] at this
  rw[show evB e++z=be e.t 8++be (167772161+e.s) 4++(be (3405803777+e.a) 4++(be (1024+e.b*8) 2++be (1024+e.b*8+8-1) 2++be (mkE e) 1++z)) by simp[evB],this]
  omega
 have e3:nAt (evB e++z) 16 2=1024+e.b*8:=by
  have:=qc4b (be e.t 8++be (167772161+e.s) 4++be (3405803777+e.a) 4) (be (1024+e.b*8) 2) (be (1024+e.b*8+8-1) 2++be (mkE e) 1++z) 2 (qd8 _ _) 16 (by simp[qd8])
  rw[qc9b] at this
  rw[show evB e++z=be e.t 8++be (167772161+e.s) 4++be (3405803777+e.a) 4++(be (1024+e.b*8) 2++(be (1024+e.b*8+8-1) 2++be (mkE e) 1++z)) by simp[evB],this]
  omega
 have e4:nAt (evB e++z) 20 1=mkE e:=by
  have:=qc4b (be e.t 8++be (167772161+e.s) 4++be (3405803777+e.a) 4++be (1024+e.b*8) 2++be (1024+e.b*8+8-1) 2) (be (mkE e) 1) z 1 (qd8 _ _) 20 (by simp[qd8])
  rw[qc9b] at this
  rw[show evB e++z=be e.t 8++be (167772161+e.s) 4++be (3405803777+e.a) 4++be (1024+e.b*8) 2++be (1024+e.b*8+8-1) 2++(be (mkE e) 1++z) by simp[evB],this]
  omega
 unfold rdE
 rw[e0,e1,e2,e3,e4,qdkb om om];obtain⟨t,s,a,b,fr⟩:=e
 simp only at *
 have h5:(1024+b*8-1024).tdiv 8=b:=by
  (rw[show 1024+b*8-1024=8*b by omega,Int.mul_tdiv_cancel_left _ (by decide)])
 (rw[h5,show 167772161+s-167772160-1=s by omega,show 3405803777+a-3405803776-1=a by omega])
 cases fr<;>simp[mkE]
theorem q19b(h:okE e)(he:evB e=l.take 21):okR l/\rdE l=e:=by
 (have hl:l=evB e++l.drop 21:=by rw[he,List.take_append_drop]);(have hr:rdE l=e:=by rw[hl];exact qg6b e h _)
 exact⟨by unfold okR;rw[hr];exact⟨h,he⟩,hr⟩
def qcyb(es:List Ev)(t:Int):Bool:=match es.getLast? with
 | none=>false
 | some e=>decide (t<e.t)
theorem qfkb(h:0<es.length)(t:Int)(he:es[es.length-1]'om=e):qcyb es t=decide (t<e.t):=by
 unfold qcyb
 have:es.getLast?=some e:=by rw[List.getLast?_eq_getElem?,List.getElem?_eq_getElem om,he]
 rw[this]
def evs.dec(time:Int)(l:List UInt8)(es:List Ev):Decidable (okR l/\(rdE l).t%4294967296=time/\qcyb es (rdE l).t=false):=by unfold okR;have:=okE.dec;exact inferInstance
def evs(time:Int):Nat->List UInt8->List Ev->Option (List Ev)
 | 0,_,es=>some es
 | c+1,l,es=>@ite _ (okR l/\(rdE l).t%4294967296=time/\qcyb es (rdE l).t=false) (evs.dec time l es) (evs time c (l.drop 21) (es++[rdE l])) none
theorem qd4b(h:okR l/\(rdE l).t%4294967296=time/\qcyb es (rdE l).t=false):evs time (c+1) l es=evs time c (l.drop 21) (es++[rdE l]):=if_pos h
theorem qd3b(h:¬(okR l/\(rdE l).t%4294967296=time/\qcyb es (rdE l).t=false)):evs time (c+1) l es=none:=if_neg h
def qctb(l:List UInt8):Int:=
 if l.length<16 then 1 else
 if nAt l 0 2≠10\/nAt l 2 2<20\/(l.length:Int)<nAt l 2 2\/nAt l 12 4≠1 then 1 else
 if (nAt l 16 2≠2/\nAt l 16 2≠300)\/nAt l 18 2≠nAt l 2 2-16 then 1 else 0
def qcsb(l:List UInt8)(d:Bool)(es:List Ev):Int×List UInt8×Bool×List Ev:=
 if qctb l≠0 then(qctb l,[],false,[]) else
 if nAt l 8 4≠(es.length:Int) then(3,[],false,[]) else
 if nAt l 16 2=2 then(if l.take (nAt l 2 2).toNat=msgB 0 (es.length:Int) 2 (tplB 6) then(0,l.drop (nAt l 2 2).toNat,true,es) else(4,[],false,[])) else
 if d=false then(7,[],false,[]) else
 if nAt l 2 2=20\/(nAt l 2 2-20)%21≠0 then(1,[],false,[]) else
 match evs (nAt l 4 4) ((nAt l 2 2-20)/21).toNat (l.drop 20) es with
 | none=>(2,[],false,[])
 | some es'=>(0,l.drop (nAt l 2 2).toNat,d,es')
def runM:Nat->List UInt8->Bool->List Ev->Int×List Ev
 | 0,_,_,es=>(0,es)
 | n+1,l,d,es=>if l.length=0 then(0,es) else if (qcsb l d es).1≠0 then((qcsb l d es).1,[]) else runM n (qcsb l d es).2.1 (qcsb l d es).2.2.1 (qcsb l d es).2.2.2
theorem qelb(n:Nat)(l:List UInt8)(d:Bool)(es:List Ev)(h:l.length=0):runM n l d es=(0,es):=by
 cases n with
 | zero=>rfl
 | succ n=>unfold runM;rw[if_pos h]
theorem qgbb(n:Nat)(l:List UInt8)(d:Bool)(es:List Ev)(h:l.length≠0)(hE:(qcsb l d es).1≠0):runM (n+1) l d es=((qcsb l d es).1,[]):=by
 unfold runM;rw[if_neg h,if_pos hE]
theorem qd9b(n:Nat)(l:List UInt8)(d:Bool)(es:List Ev)(h:l.length≠0){l':List UInt8}{d':Bool}(hE:qcsb l d es=(0,l',d',es')):runM (n+1) l d es=runM n l' d' es':=by
 conv=>lhs;unfold runM
 rw[if_neg h,hE];simp
theorem qghb(l:List UInt8):qctb l=0\/qctb l=1:=by unfold qctb;split<;>(try split)<;>(try split)<;>simp
theorem qf5b(h:qctb l=0):16<=l.length/\nAt l 0 2=10/\20<=nAt l 2 2/\nAt l 2 2<=(l.length:Int)/\nAt l 12 4=1/\(nAt l 16 2=2\/nAt l 16 2=300)/\nAt l 18 2=nAt l 2 2-16:=by
 unfold qctb at h
 split at h
 ·simp at h
 ·split at h
  ·simp at h
  ·split at h
   ·simp at h
   ·omega
theorem qgob(h : evs time c l es = some es'): es'.length = es.length + c := by
  induction c generalizing l es with
  | zero => have : es = es' := by simpa[evs] using h
            subst this;rfl
  | succ c ih =>
    by_cases hk : okR l /\ (rdE l).t%4294967296 = time /\ qcyb es (rdE l).t = false
    · rw[qd4b hk] at h;have := ih h;simp at this;omega
    · rw[qd3b hk] at h;simp at h
structure qfb(p:Nat)(w w':World):Prop where
 os:w'.os=w.os
 tape:w'.tape=w.tape
 output:w'.output=w.output
 size:w.heap.size<=w'.heap.size
 block:∀k,k<w.heap.size->k≠p->w'.heap[k]?=w.heap[k]?
section
variable {p:Nat} {a b c:World}
theorem qfb.refl(p:Nat)(w:World):qfb p w w:=⟨rfl,rfl,rfl,Nat.le_refl _,fun _ _ _=>rfl⟩
theorem qfb.trans(h:qfb p a b)(k:qfb p b c):qfb p a c:=
 ⟨k.os.trans h.os,k.tape.trans h.tape,k.output.trans h.output,Nat.le_trans h.size k.size,fun i hi hp=>(k.block i (Nat.lt_of_lt_of_le hi h.size) hp).trans (h.block i hi hp)⟩
theorem qfb.ofBelow(h:Below a.heap.size a b):qfb p a b:=⟨h.os,h.tape,h.output,h.size,fun k hk _=>h.block k hk⟩
theorem qfb.drew(h:qfb p a b):qfb p a b.drew:=⟨h.os,h.tape,h.output,h.size,h.block⟩
theorem qfb.ofTurned(h:qbl p a b):qfb p a b:=by
 have:=h.below 0 a (Nat.zero_le _) (Below.refl _ _)
 exact⟨this.os,this.tape,this.output,this.size,fun k _ hp=>h.other k hp⟩
theorem qfb.turned(h:qfb p a b)(t:qbl r b c)(hr:a.heap.size<=r):qfb p a c:=by
 have:=t.below 0 b (Nat.zero_le _) (Below.refl _ _)
 exact⟨this.os.trans h.os,this.tape.trans h.tape,this.output.trans h.output,Nat.le_trans h.size this.size,fun k hk hp=>(t.other k om).trans (h.block k hk hp)⟩
theorem qfb.below{B:Nat}(h:qfb p a b)(hB:B<=a.heap.size)(hp:B<=p):Below B a b:=⟨h.os,h.tape,h.output,h.size,fun k hk=>h.block k om om⟩
theorem qfb.row(h:qfb p a b)(R:Row t a r cs)(hne:r≠p):Row t b r cs:=(h.block r R.lt hne).trans R
theorem qfb.tab(h:qfb p a b)(T:Tab a)(hp:p≠0):Tab b:=fun j v hv=>by
 have:=T j v hv
 unfold World.cell? at *
 rw[h.block _ T.lt (fun e=>hp e.symm)]
 exact this
end
theorem qcm(R:Row t w b cs)(x:Operand)(ho:o.op=.load 9 x)(hw:Region.wanted o (yielded ops a.tmps)=true)(f:Nat)(hx:a.eval x=V (some ⟨b,f,none⟩))(n:ByteArray)(hc:cs[f]?=some (.string n))(hr:wpList prog ops Q rest (a.put o.dst (.string n)) w):wpList prog ops Q (o::rest) a w:=
 wpList_step fun K hK=>by
  rw[if_pos hw];have hcell:=(R.cell f).trans hc
  unfold Oper.wp execOp
  simp only[ho,hx]
  simp[go_sem,hcell,underlying9]
  exact hK _ _ hr
theorem qdfb(R:Row t w b cs)(x:Operand)(ho:o.op=.load 22 x)(hw:Region.wanted o (yielded ops a.tmps)=true)(f:Nat)(hx:a.eval x=V (some ⟨b,f,none⟩))(v:Value)(hc:cs[f]?=some v)(hr:wpList prog ops Q rest (a.put o.dst v) w):wpList prog ops Q (o::rest) a w:=
 wpList_step fun K hK=>by
  rw[if_pos hw];have hcell:=(R.cell f).trans hc
  unfold Oper.wp execOp
  simp only[ho,hx]
  simp[go_sem,hcell,underlying22]
  exact hK _ _ hr
theorem qeeb(R:Row t w b cs)(hgd:o.guard=none)(x y:Operand)(ho:o.op=.store 9 x y)(f:Nat)(hx:a.eval x=V (some ⟨b,f,none⟩))(n:ByteArray)(hy:a.eval y=.string n)(m:ByteArray)(hc:cs[f]?=some (.string m))(ds:Array Value)(hd:cs.setIfInBounds f (.string n)=ds)(hr:∀w',Row t w' b ds->qbl b w w'->wpList prog ops Q rest (a.put o.dst undef) w'):wpList prog ops Q (o::rest) a w:=
 wpList_plain hgd fun K hK=>by
  have hcell:=(R.cell f).trans hc;have hfr:=R.free f
  unfold Oper.wp execOp
  simp only[ho,hx,hy]
  simp[go_sem,hcell,hfr,underlying9]
  exact hK _ _ (hr _ (hd▸R.set) (qfx _ _ _ _))
theorem qdab(R:Row t w b cs)(hgd:o.guard=none)(x y:Operand)(ho:o.op=.store 4 x y)(f:Nat)(hx:a.eval x=V (some ⟨b,f,none⟩))(n:Bool)(hy:a.eval y=.bool n)(m:Bool)(hc:cs[f]?=some (.bool m))(ds:Array Value)(hd:cs.setIfInBounds f (.bool n)=ds)(hr:∀w',Row t w' b ds->qbl b w w'->wpList prog ops Q rest (a.put o.dst undef) w'):wpList prog ops Q (o::rest) a w:=
 wpList_plain hgd fun K hK=>by
  have hcell:=(R.cell f).trans hc;have hfr:=R.free f
  unfold Oper.wp execOp
  simp only[ho,hx,hy]
  simp[go_sem,hcell,hfr,underlying4]
  exact hK _ _ (hr _ (hd▸R.set) (qfx _ _ _ _))
def rc(l:List UInt8)(d:Bool)(v:Value):Array Value:=#[.string (txt l),.bool d,v]
def Rdr(w:World)(p:Nat)(l:List UInt8)(d:Bool)(v:Value):Prop:=Row 61 w p (rc l d v)
theorem qg4b(l m:List UInt8)(d:Bool)(v:Value):(rc l d v).setIfInBounds 0 (.string (txt m))=rc m d v:=rfl
theorem qe2b(l:List UInt8)(d e:Bool)(v:Value):(rc l d v).setIfInBounds 1 (.bool e)=rc l e v:=rfl
theorem qe4b(l:List UInt8)(d:Bool)(v u:Value):(rc l d v).setIfInBounds 2 u=rc l d u:=rfl
theorem qe3b(l:List UInt8)(a b:Nat):(txt l).extract a b=txt ((l.drop a).take (b-a)):=by
 rw[←qmw ((txt l).extract a b)]
 congr 1
 simp[txt]
theorem qdmb(l:List UInt8)(k:Nat):(txt l).extract 0 k=txt (l.take k):=by rw[qe3b];simp
theorem qfnb(l:List UInt8)(k:Nat):(txt l).extract k l.length=txt (l.drop k):=by
 rw[qe3b,List.take_of_length_le (by rw[List.length_drop];omega)]
theorem qeqb(p:Nat)(l:List UInt8)(d:Bool)(v:Value)(k:Nat)(w:World)(R:Rdr w p l d v)(hk:k<=l.length)(hl:l.length<=140737488351232):
  Calls prog 37 #[V (some ⟨p,0,none⟩),I Z (k:Int)] w fun x w'=>x=.returned (.string (txt (l.take k)))/\Rdr w' p (l.drop k) d v/\qfb p w w':=by
 have hsz:(txt l).size=l.length:=qck l;have h1:=qdmb l k;have h2:=qfnb l k;have hM:=qfb.refl p w;(have hk':(k:Int)<=(l.length:Int):=by omega)
 unfold Rdr at R
 go_enter func37,ntmps37
 go_wp2_with (first|((with_reducible refine gL 9 8 ?_);refine m34 ?_)|((with_reducible refine gL 9 15 ?_);refine m34 ?_)|((with_reducible refine gS 9 20 18 ?_);refine qeeb R rfl _ _ rfl 0 rfl (txt (l.drop k)) rfl _ rfl _ (qg4b _ _ _ _) ?_;intro w6 R t6;replace hM:=hM.trans (qfb.ofTurned t6)))
 go_ret
 exact⟨rfl,R,hM⟩
theorem q1xb(l:List UInt8)(j:Nat)(h:j<l.length)(h2:j<(txt l).size):(txt l)[j]'h2=l[j]:=rfl
theorem qftb(l:List UInt8)(k j:Nat)(hj:j<k)(h:j<l.length)(h2:j<(txt (l.take k)).size):(txt (l.take k))[j]'h2=l[j]:=(show(l.take k)[j]'(by rw[List.length_take];omega)=l[j] from List.getElem_take)
theorem qefb(l:List UInt8)(j:Nat)(h:j<l.length):num (l.take (j+1))=256*num (l.take j)+(l[j].toNat:Int):=by
 rw[List.take_succ_eq_append_getElem h,qemb]
theorem qg2b(q b:Nat)(hb:b<256):256*q ||| b=256*q+b:=by
 have h:=Nat.shiftLeft_add_eq_or_of_lt (i:=8) (b:=b) om q
 rw[Nat.shiftLeft_eq] at h
 (rw[show 256*q=q*2^8 by omega])
 exact h.symm
theorem qgpb(x:Int)(c:Int)(h0:0<=c)(h1:c<=255):bits .or .i64 (wrap64 (wrap64 x*256)) c=wrap64 (256*x+c):=by
 obtain⟨b,rfl⟩:∃b:Nat,c=b:=⟨c.toNat,by omega⟩
 (have hb:b<256:=by omega);(have hw:wrap64 (wrap64 x*256)=wrap64 (256*x):=by unfold wrap64;omega);rw[hw]
 have e1:(BitVec.ofInt 64 (wrap64 (256*x))).toNat=256*(x%72057594037927936).toNat:=by
  rw[BitVec.toNat_ofInt];unfold wrap64;omega
 (have e2:(BitVec.ofInt 64 (b:Int)).toNat=b:=by rw[BitVec.toNat_ofInt];omega)
 have e5:(BitVec.ofInt 64 (wrap64 (256*x)) ||| BitVec.ofInt 64 (b:Int)).toNat=256*(x%72057594037927936).toNat+b:=by
  rw[BitVec.toNat_or,e1,e2,qg2b _ _ hb]
 unfold bits
 show IntKind.i64.wrap ((BitVec.ofInt 64 (wrap64 (256*x)) ||| BitVec.ofInt 64 (b:Int)).toNat:Int)=_
 rw[e5]
 simp[IntKind.wrap,IntKind.bits,IntKind.signed]
 unfold wrap64
 omega
theorem qdjb(p:Nat)(l:List UInt8)(d:Bool)(v:Value)(k:Nat)(w:World)(R:Rdr w p l d v)(hk:k<=l.length)(hl:l.length<=140737488351232)(hk8:k<=8):
  Calls prog 36 #[V (some ⟨p,0,none⟩),I Z (k:Int)] w fun x w'=>x=.returned (I Z (wrap64 (num (l.take k))))/\Rdr w' p (l.drop k) d v/\qfb p w w':=by
 (have hlen:(l.take k).length=k:=by rw[List.length_take];omega)
 go_enter func36,ntmps36
 go_wp2_with (go_at_call 37;refine(qeqb p l d v k _ R hk hl).mono ?_;rintro x w5 ⟨rfl,R5,hM⟩;obtain⟨C,cap,hconv,hcell⟩:=qfjb (txt (l.take k)) w5;have hsz:(txt (l.take k)).size=k:=(by rw[qck,hlen]);rw[hsz] at hconv)
 have R6:=R5.alloc (.cells C 5 (C.size,C.size+1));replace hM:=hM.trans (qfb.ofBelow ((Below.refl _ _).alloc (Nat.le_refl _) (.cells C 5 (C.size,C.size+1))))
 go_loop [5,13] (fun t i=>∃j:Nat,j<=k/\i=I Z (j:Int)/\t=I Z (wrap64 (num (l.take j)))) (fun _ i=>k-(intOf i).toNat)
 case atStart=>exact⟨0,by omega,rfl,by simp[num,wrap64]⟩
 case round=>
  obtain⟨j,hj,rfl,rfl⟩:=hrel
  by_cases hlt:j<k
  ·(have hjl:j<l.length:=by omega);have HS:Hid (num (l.take (j+1))=256*num (l.take j)+(l[j].toNat:Int)):=qefb l j hjl;have c0:=qje l[j]
   have hc:World.cell? (w5.alloc (.cells C 5 (C.size,C.size+1))) ⟨w5.heap.size,j,none⟩=some (.int .u8 (l[j].toNat:Int)):=by
    have h5:=hcell j (by rw[hsz];exact hlt)
    rw[qftb l k j hlt hjl (by rw[hsz];exact hlt)] at h5
    exact h5
   have HO:Hid (_=wrap64 (256*num (l.take j)+(l[j].toNat:Int))):=qgpb (num (l.take j)) _ c0.1 c0.2;clear hcell
   go_wp2
   go_round
   case rel=>exact⟨j+1,by omega,by go_num,by rw[HO.out,HS.out]⟩
   case measure=>simp[intOf];omega
  ·obtain rfl:j=k:=by omega
   go_wp2
   go_ret
   exact⟨rfl,R6,hM.drew⟩
theorem qdwb{a:Nat}(w:World)(R:Rdr w p (l.drop a) d v)(hk:a+1<=l.length)(hl:l.length<=140737488351232):
  Calls prog 36 #[V (some ⟨p,0,none⟩),I Z 1] w fun x w'=>x=.returned (I Z (nAt l a 1))/\Rdr w' p (l.drop (a+1)) d v/\qfb p w w':=by
 have h:=qdjb p (l.drop a) d v 1 w R (by rw[List.length_drop];omega) (by rw[List.length_drop];omega) om
 rw[List.drop_drop,show wrap64 (num ((l.drop a).take 1))=nAt l a 1 from qdkb (by have:=qc2b l a 1 om;unfold nAt at this;omega) (by have:=qc2b l a 1 om;unfold nAt at this;omega)] at h
 exact h
theorem qc0b{a:Nat}(w:World)(R:Rdr w p (l.drop a) d v)(hk:a+2<=l.length)(hl:l.length<=140737488351232):
  Calls prog 36 #[V (some ⟨p,0,none⟩),I Z 2] w fun x w'=>x=.returned (I Z (nAt l a 2))/\Rdr w' p (l.drop (a+2)) d v/\qfb p w w':=by
 have h:=qdjb p (l.drop a) d v 2 w R (by rw[List.length_drop];omega) (by rw[List.length_drop];omega) om
 rw[List.drop_drop,show wrap64 (num ((l.drop a).take 2))=nAt l a 2 from qdkb (by have:=qc2b l a 2 om;unfold nAt at this;omega) (by have:=qc2b l a 2 om;unfold nAt at this;omega)] at h
 exact h
theorem qc1b{a:Nat}(w:World)(R:Rdr w p (l.drop a) d v)(hk:a+4<=l.length)(hl:l.length<=140737488351232):
  Calls prog 36 #[V (some ⟨p,0,none⟩),I Z 4] w fun x w'=>x=.returned (I Z (nAt l a 4))/\Rdr w' p (l.drop (a+4)) d v/\qfb p w w':=by
 have h:=qdjb p (l.drop a) d v 4 w R (by rw[List.length_drop];omega) (by rw[List.length_drop];omega) om
 rw[List.drop_drop,show wrap64 (num ((l.drop a).take 4))=nAt l a 4 from qdkb (by have:=qc2b l a 4 om;unfold nAt at this;omega) (by have:=qc2b l a 4 om;unfold nAt at this;omega)] at h
 exact h
theorem qdvb{a:Nat}(w:World)(R:Rdr w p (l.drop a) d v)(hk:a+8<=l.length)(hl:l.length<=140737488351232):
  Calls prog 36 #[V (some ⟨p,0,none⟩),I Z 8] w fun x w'=>x=.returned (I Z (wrap64 (nAt l a 8)))/\Rdr w' p (l.drop (a+8)) d v/\qfb p w w':=by
 have h:=qdjb p (l.drop a) d v 8 w R (by rw[List.length_drop];omega) (by rw[List.length_drop];omega) om
 rw[List.drop_drop] at h
 exact h
theorem qdhb{a:Nat}(k:Nat)(w:World)(R:Rdr w p (l.drop a) d v)(hk:a+k<=l.length)(hl:l.length<=140737488351232):
  Calls prog 37 #[V (some ⟨p,0,none⟩),I Z (k:Int)] w fun x w'=>x=.returned (.string (txt ((l.drop a).take k)))/\Rdr w' p (l.drop (a+k)) d v/\qfb p w w':=by
 have h:=qeqb p (l.drop a) d v k w R (by rw[List.length_drop];omega) (by rw[List.length_drop];omega)
 rw[List.drop_drop] at h
 exact h
theorem qdlb(x:Operand)(ho:o.op=.convert 48 9 x)(v:Value)(hx:a.eval x=v)(t:ByteArray)(hrun:(convert 48 9 v).run prog w=.ok (.string t) w)(hr:K (a.put o.dst (.string t)) w):o.wp prog a w K Q:=by
 unfold Oper.wp execOp
 simp only[ho,hx,Sem.run_bind,hrun,Result.andThen_ok,Sem.run_pure]
 exact hr
theorem qdeb(x y:Operand)(ho:o.op=.binOp .eql 9 x y 9)(hw:Region.wanted o (yielded ops a.tmps)=true)(s t:List UInt8)(hx:a.eval x=.string (txt s))(hy:a.eval y=.string (txt t))(b:Bool)(hb:decide (s=t)=b):YieldsIf prog ops S o (.bool b) a:=
 .inl ⟨hw,fun w _=>by
  have e:((txt s).toList==(txt t).toList)=b:=by
   rw[ByteArray.toList_eq,ByteArray.toList_eq,qds,qds,←hb]
   by_cases h:s=t
   ·subst h;simp
   ·simp[h]
  unfold execOp
  simp only[ho,hx,hy]
  simp[go_sem,eqGuard,e]⟩
theorem qfib(w:World):(Instr.build 29 #[]).run prog w=.ok (.agg (ec noE)) w:=by kernel_rfl
theorem qdub{v':Value}(h:Grew v v' w.drew w'):Grew v v' w w':=⟨⟨h.by'.os,h.by'.tape,h.by'.output,h.by'.size,h.by'.block⟩,h.lies⟩
theorem sZrr23{p:Prop}(h:p:=by
 refine tq 7 (.bool true) rfl R5 ?_;refine m1r ?_
 go_wp2
 (refine m0r ?_;refine bodyPost_ret (qbf (p:=2) (u:=3) rfl _ _ _ _ rfl R2 _ underlying29 rfl (qf2 _)) rfl ⟨rfl,R,hM⟩)):p:=h
theorem qfvb(p:Nat)(l:List UInt8)(d:Bool)(v:Value)(w:World)(R:Rdr w p l d v)(hk:21<=l.length)(hl:l.length<=140737488351232)(hr:okR l):
  Calls prog 38 #[V (some ⟨p,0,none⟩)] w fun x w'=>x=.returned (.tuple #[.agg (ec (rdE l)),.bool true])/\Rdr w' p (l.drop 21) d v/\qfb p w w':=by
 have hM:=qfb.refl p w;have hsz:(txt l).size=l.length:=qck l;have h1:=qdmb l 21;(have hk':(21:Int)<=(l.length:Int):=by omega);have q1:=qc2b l 8 4 om;have q2:=qc2b l 12 4 om;have q3:=qc2b l 16 2 om;obtain⟨q10,q11⟩:=q1;obtain⟨q20,q21⟩:=q2;obtain⟨q30,q31⟩:=q3;have hok:=hr.1;(have heq:decide (evB (rdE l)=l.take 21)=true:=by simpa using hr.2);refine m2d ?_;intro CG;clear hr
 go_enter func38,ntmps38
 go_upto_region 11 with(first|((with_reducible refine gA 29 ?_);refine ax 2 29 qr3 ?_;refine m0x ?_;clear R hM;intro b2 w2 g2 R2 hb2 n2 R hM)|((with_reducible refine gA 29 ?_);refine ax 5 29 qr3 ?_;refine m0a ?_;clear R2 R hM;intro b5 w2 R5 hb2 n5 n25 g5 R2 R hM)|((with_reducible refine gL 9 8 ?_);refine m34 ?_)|(go_at_call 36;go_fit (qdvb _ (show Rdr _ p (l.drop 0) d v from R) om hl);refine m01 ?_;clear R hM R2 R5;intro w5 R hM R2 R5)|(go_at_call 36;go_fit (qc1b _ R om hl);refine m01 ?_;clear R hM R2 R5;intro w5 R hM R2 R5)|(go_at_call 36;go_fit (qc0b _ R om hl);refine m01 ?_;clear R hM R2 R5;intro w5 R hM R2 R5)|(go_at_call 36;go_fit (qdwb _ R om hl);refine m01 ?_;clear R hM R2 R5;intro w5 R hM R2 R5)|(go_at_call 37;refine(qdhb 2 _ R om hl).mono ?_;refine m01 ?_;clear R hM R2 R5;intro w5 R hM R2 R5)|((with_reducible refine gS 3 13 12 ?_);refine m1y ?_;refine m06 ?_;clear R2 R hM;intro w6 R5 t6 R2 R hM)|((with_reducible refine gS 3 18 17 ?_);refine m1j ?_;refine m06 ?_;clear R2 R hM;intro w6 R5 t6 R2 R hM)|((with_reducible refine gS 3 23 22 ?_);refine m1b ?_;refine m06 ?_;clear R2 R hM;intro w6 R5 t6 R2 R hM)|((with_reducible refine gS 3 28 27 ?_);refine m14 ?_;refine m06 ?_;clear R2 R hM;intro w6 R5 t6 R2 R hM)|((with_reducible refine gS 4 34 33 ?_);refine m2k ?_;refine m06 ?_;clear R2 R hM;intro w6 R5 t6 R2 R hM)|((with_reducible refine gL 29 5 ?_);refine lx 29 (.tmp 5) (ec (rdE l)) R5 ?_)|(go_at_call 12;go_fit (CG _);rintro x w5 ⟨rfl,hb5⟩;refine m1q ?_;clear R R2 R5 hM;intro R R2 R5 hM))
 refine RD (fun W=>Row 29 W b5 (ec (rdE l))) R5 (fun _=>?_)
 refine tk 0 (.agg (ec (rdE l))) rfl (yx 29 (.tmp 5) (ec (rdE l)) (fun w h=>h)) R5 (tk 1 (.agg (ec (rdE l))) rfl (yx 29 (.tmp 5) (ec (rdE l)) (fun w h=>h)) R5 (tq 4 (.string (txt (l.take 21))) rfl R5 ?_))
 simp only[ZZ];refine AR [2] ?_
 refine AC (fun K hK=>?_) AZ
 go_simp
 go_at_call 21;refine(qvw (base:=0) (rdE l) _ (Bys.nil _ 0) (Nat.zero_le _) zm hok).mono ?_;rintro x w5 ⟨v5,rfl,hO,hG⟩;replace hG:=qdub hG;have hne:=Grew.ne hG (by simp[Value.ownBlock]) R2.lt;have hb5:=Grew.below hG (Nat.le_refl _) (fun k hk=>by simp[Value.ownBlock] at hk);refine m1q ?_;clear R R2 R5 hM;intro R R2 R5 hM
 go_wp2_with fail
 refine hK.out _ _ R5 (fun _=>?_)
 clear hK K;(try simp only[ZZ]);refine AR [3,6] ?_
 refine AP (fun K hK=>?_) ?_
 ·refine qdlb (.tmp 41) rfl _ kr (txt (evB (rdE l))) (q64 hO (by rw[q80];decide)) ?_
  refine hK.out _ _ R5 (fun _=>?_)
  clear hK K;(try simp only[ZZ]);refine m2w ?_;refine AR [6] ?_
  refine AP (fun K hK=>?_) AZ
  refine m17 ?_;clear hO R5 R hM;intro w7 R2 t7 hO R5 R hM
  refine hK.out _ _ R5 (fun _=>?_)
  clear hK K;(try simp only[ZZ])
  exact sZrr23
 refine AP (fun K hK=>?_) AZ
 refine m17 ?_;clear hO R5 R hM;intro w7 R2 t7 hO R5 R hM
 refine hK.out _ _ R5 (fun _=>?_)
 clear hK K;(try simp only[ZZ]);refine AR [3] ?_
 refine AP (fun K hK=>?_) AZ
 refine qdlb (.tmp 41) rfl _ kr (txt (evB (rdE l))) (q64 hO (by rw[q80];decide)) ?_
 refine hK.out _ _ R5 (fun _=>?_)
 clear hK K;(try simp only[ZZ]);refine m2w ?_
 exact sZrr23
theorem sZrr22{p:Prop}(h:p:=by
 refine tq 7 (.bool false) rfl R5 ?_;refine m1r ?_
 go_wp2
 (refine m0r ?_;refine bodyPost_ret (qbf (p:=2) (u:=3) rfl _ _ _ _ rfl R2 _ underlying29 rfl (qf2 _)) rfl ⟨⟨_,rfl⟩,R,hM⟩)):p:=h
theorem qf8b(p:Nat)(l:List UInt8)(d:Bool)(v:Value)(w:World)(R:Rdr w p l d v)(hk:21<=l.length)(hl:l.length<=140737488351232)(hr:¬okR l):
  Calls prog 38 #[V (some ⟨p,0,none⟩)] w fun x w'=>(∃E:Ev,x=.returned (.tuple #[.agg (ec E),.bool false]))/\Rdr w' p (l.drop 21) d v/\qfb p w w':=by
 have hM:=qfb.refl p w;have hsz:(txt l).size=l.length:=qck l;have h1:=qdmb l 21;(have hk':(21:Int)<=(l.length:Int):=by omega);have q1:=qc2b l 8 4 om;have q2:=qc2b l 12 4 om;have q3:=qc2b l 16 2 om;obtain⟨q10,q11⟩:=q1;obtain⟨q20,q21⟩:=q2;obtain⟨q30,q31⟩:=q3
 by_cases hok:okE (rdE l)
 ·(have heq:decide (evB (rdE l)=l.take 21)=false:=by simp;exact fun h=>hr ⟨hok,h⟩);refine m2d ?_;intro CG;clear hr
  go_enter func38,ntmps38
  go_upto_region 11 with(first|((with_reducible refine gA 29 ?_);refine ax 2 29 qr3 ?_;refine m0x ?_;clear R hM;intro b2 w2 g2 R2 hb2 n2 R hM)|((with_reducible refine gA 29 ?_);refine ax 5 29 qr3 ?_;refine m0a ?_;clear R2 R hM;intro b5 w2 R5 hb2 n5 n25 g5 R2 R hM)|((with_reducible refine gL 9 8 ?_);refine m34 ?_)|(go_at_call 36;go_fit (qdvb _ (show Rdr _ p (l.drop 0) d v from R) om hl);refine m01 ?_;clear R hM R2 R5;intro w5 R hM R2 R5)|(go_at_call 36;go_fit (qc1b _ R om hl);refine m01 ?_;clear R hM R2 R5;intro w5 R hM R2 R5)|(go_at_call 36;go_fit (qc0b _ R om hl);refine m01 ?_;clear R hM R2 R5;intro w5 R hM R2 R5)|(go_at_call 36;go_fit (qdwb _ R om hl);refine m01 ?_;clear R hM R2 R5;intro w5 R hM R2 R5)|(go_at_call 37;refine(qdhb 2 _ R om hl).mono ?_;refine m01 ?_;clear R hM R2 R5;intro w5 R hM R2 R5)|((with_reducible refine gS 3 13 12 ?_);refine m1y ?_;refine m06 ?_;clear R2 R hM;intro w6 R5 t6 R2 R hM)|((with_reducible refine gS 3 18 17 ?_);refine m1j ?_;refine m06 ?_;clear R2 R hM;intro w6 R5 t6 R2 R hM)|((with_reducible refine gS 3 23 22 ?_);refine m1b ?_;refine m06 ?_;clear R2 R hM;intro w6 R5 t6 R2 R hM)|((with_reducible refine gS 3 28 27 ?_);refine m14 ?_;refine m06 ?_;clear R2 R hM;intro w6 R5 t6 R2 R hM)|((with_reducible refine gS 4 34 33 ?_);refine m2k ?_;refine m06 ?_;clear R2 R hM;intro w6 R5 t6 R2 R hM)|((with_reducible refine gL 29 5 ?_);refine lx 29 (.tmp 5) (ec (rdE l)) R5 ?_)|(go_at_call 12;go_fit (CG _);rintro x w5 ⟨rfl,hb5⟩;refine m1q ?_;clear R R2 R5 hM;intro R R2 R5 hM))
  refine RD (fun W=>Row 29 W b5 (ec (rdE l))) R5 (fun _=>?_)
  refine tk 0 (.agg (ec (rdE l))) rfl (yx 29 (.tmp 5) (ec (rdE l)) (fun w h=>h)) R5 (tk 1 (.agg (ec (rdE l))) rfl (yx 29 (.tmp 5) (ec (rdE l)) (fun w h=>h)) R5 (tq 4 (.string (txt (l.take 21))) rfl R5 ?_))
  simp only[ZZ];refine AR [2] ?_
  refine AC (fun K hK=>?_) AZ
  go_simp
  go_at_call 21;refine(qvw (base:=0) (rdE l) _ (Bys.nil _ 0) (Nat.zero_le _) zm hok).mono ?_;rintro x w5 ⟨v5,rfl,hO,hG⟩;replace hG:=qdub hG;have hne:=Grew.ne hG (by simp[Value.ownBlock]) R2.lt;have hb5:=Grew.below hG (Nat.le_refl _) (fun k hk=>by simp[Value.ownBlock] at hk);refine m1q ?_;clear R R2 R5 hM;intro R R2 R5 hM
  go_wp2_with fail
  refine hK.out _ _ R5 (fun _=>?_)
  clear hK K;(try simp only[ZZ]);refine AR [3,6] ?_
  refine AP (fun K hK=>?_) ?_
  ·refine qdlb (.tmp 41) rfl _ kr (txt (evB (rdE l))) (q64 hO (by rw[q80];decide)) ?_
   refine hK.out _ _ R5 (fun _=>?_)
   clear hK K;(try simp only[ZZ]);refine m2v ?_;refine AR [6] ?_
   refine AP (fun K hK=>?_) AZ
   refine m17 ?_;clear hO R5 R hM;intro w7 R2 t7 hO R5 R hM
   refine hK.out _ _ R5 (fun _=>?_)
   clear hK K;(try simp only[ZZ])
   exact sZrr22
  refine AP (fun K hK=>?_) AZ
  refine m17 ?_;clear hO R5 R hM;intro w7 R2 t7 hO R5 R hM
  refine hK.out _ _ R5 (fun _=>?_)
  clear hK K;(try simp only[ZZ]);refine AR [3] ?_
  refine AP (fun K hK=>?_) AZ
  refine qdlb (.tmp 41) rfl _ kr (txt (evB (rdE l))) (q64 hO (by rw[q80];decide)) ?_
  refine hK.out _ _ R5 (fun _=>?_)
  clear hK K;(try simp only[ZZ]);refine m2v ?_
  exact sZrr22
 ·(have CG:∀w,Calls prog 12 #[.agg (ec (rdE l))] w fun x w'=>x=.returned (I Z 2)/\Below w.heap.size w w':=fun w=>by have:=qro (rdE l) w;rw[qlh hok] at this;exact this);clear hr
  go_enter func38,ntmps38
  go_wp2_with (first|((with_reducible refine gA 29 ?_);refine ax 2 29 qr3 ?_;refine m0x ?_;clear R hM;intro b2 w2 g2 R2 hb2 n2 R hM)|((with_reducible refine gA 29 ?_);refine ax 5 29 qr3 ?_;refine m0a ?_;clear R2 R hM;intro b5 w2 R5 hb2 n5 n25 g5 R2 R hM)|((with_reducible refine gL 9 8 ?_);refine m34 ?_)|(go_at_call 36;go_fit (qdvb _ (show Rdr _ p (l.drop 0) d v from R) om hl);refine m01 ?_;clear R hM R2 R5;intro w5 R hM R2 R5)|(go_at_call 36;go_fit (qc1b _ R om hl);refine m01 ?_;clear R hM R2 R5;intro w5 R hM R2 R5)|(go_at_call 36;go_fit (qc0b _ R om hl);refine m01 ?_;clear R hM R2 R5;intro w5 R hM R2 R5)|(go_at_call 36;go_fit (qdwb _ R om hl);refine m01 ?_;clear R hM R2 R5;intro w5 R hM R2 R5)|(go_at_call 37;refine(qdhb 2 _ R om hl).mono ?_;refine m01 ?_;clear R hM R2 R5;intro w5 R hM R2 R5)|((with_reducible refine gS 3 13 12 ?_);refine m1y ?_;refine m06 ?_;clear R2 R hM;intro w6 R5 t6 R2 R hM)|((with_reducible refine gS 3 18 17 ?_);refine m1j ?_;refine m06 ?_;clear R2 R hM;intro w6 R5 t6 R2 R hM)|((with_reducible refine gS 3 23 22 ?_);refine m1b ?_;refine m06 ?_;clear R2 R hM;intro w6 R5 t6 R2 R hM)|((with_reducible refine gS 3 28 27 ?_);refine m14 ?_;refine m06 ?_;clear R2 R hM;intro w6 R5 t6 R2 R hM)|((with_reducible refine gS 4 34 33 ?_);refine m2k ?_;refine m06 ?_;clear R2 R hM;intro w6 R5 t6 R2 R hM)|((with_reducible refine gL 29 5 ?_);refine lx 29 (.tmp 5) (ec (rdE l)) R5 ?_)|(go_at_call 12;go_fit (CG _);rintro x w5 ⟨rfl,hb5⟩;refine m1q ?_;clear R R2 R5 hM;intro R R2 R5 hM)|((with_reducible refine atOp (.build 29 #[]) rfl ?_);refine qcvb 29 rfl rfl _ qfib ?_)|((with_reducible refine gS 29 2 38 ?_);refine sx 29 (.tmp 2) (.tmp 38) (ec noE) R2 ?_;intro w6 R2 t6;replace R:=t6.row R n2.symm;replace hM:=hM.turned t6 g2))
  (refine m0r ?_;refine bodyPost_ret (qbf (p:=2) (u:=3) rfl _ _ _ _ rfl R2 _ underlying29 rfl (qf2 _)) rfl ⟨⟨_,rfl⟩,R,hM⟩)
def EvO(w:World)(base:Nat)(v:Value)(es:List Ev):Prop:=w.ownsRow base 29 5 v es.length (es.flatMap ecl)
theorem EvO.nil(w:World)(base:Nat):EvO w base (.slice none 0 0) []:=World.ownsRow_nil w base 29 5
theorem EvO.keep(h:EvO w base v es)(hk:∀g,v.ownBlock=some g->w'.heap[g]?=w.heap[g]?):EvO w' base v es:=by
 refine⟨h.1,?_⟩
 rcases h.2 with e|⟨b,cap,cur,hv,hbb,hh,r⟩
 ·exact .inl e
 ·exact .inr ⟨b,cap,cur,hv,hbb,(hk b (by rw[hv];rfl)).trans hh,r⟩
theorem EvO.ge(h:EvO w base v es):∀k,v.ownBlock=some k->base<=k/\k<w.heap.size:=fun k hk=>h.lt k hk
theorem EvO.below(h:EvO w base v es)(hb:Below w.heap.size w w'):EvO w' base v es:=h.keep (fun g hg=>hb.block g (h.ge g hg).2)
theorem EvO.moved(h:EvO w base v es)(hm:qfb p w w')(hp:p<base):EvO w' base v es:=h.keep (fun g hg=>hm.block g (h.ge g hg).2 (by have:=(h.ge g hg).1;omega))
theorem EvO.turned(h:EvO w base v es)(t:qbl b w w')(hne:v.ownBlock≠some b):EvO w' base v es:=h.keep (fun g hg=>t.other g (fun e=>hne (by rw[hg,e])))
theorem EvO.new(h:EvO w base v es)(hb:w.heap.size<=b):v.ownBlock≠some b:=fun e=>by have:=(h.ge b e).2;omega
theorem EvO.slice(h:EvO w base v es):∃a cap,v=.slice a es.length cap:=by
 rcases h.2 with⟨e,n0⟩|⟨b,cap,cur,hv,_⟩
 ·exact⟨none,0,by rw[e,n0]⟩
 ·exact⟨_,_,hv⟩
theorem EvO.at(h:EvO w base v es)(hl:es.length<=3518437208780):EvAt w v es:=by
 rcases h.2 with⟨e,n0⟩|⟨b,cap,cur,hv,hbb,hh,hnc,hcm,hcs,ht⟩
 ·have:es=[]:=List.eq_nil_of_length_eq_zero n0
  subst this
  exact⟨none,0,e,fun h=>absurd h zm,fun j hj=>absurd hj zm,by simp⟩
 ·subst hv
  refine⟨_,_,rfl,fun _=>rfl,fun j hj i u hu=>?_,hl⟩
  (have hi5:i<5:=by have:=(List.getElem?_eq_some_iff.1 hu).1;simpa[ecl] using this)
  show w.cell? ⟨b,0+5*j+i,none⟩=some u
  have e:=(qx0 es j i hj hi5).trans hu
  rw[←ht,List.getElem?_take_of_lt om] at e
  simp only[World.cell?,hh,Nat.zero_add]
  simpa using e
theorem q2i(es:List Ev)(e:Ev):(es++[e]).flatMap ecl=es.flatMap ecl++ecl e:=by rw[List.flatMap_append];simp
theorem q7d(e:Ev)(j:Nat):(ec e)[j]?=(ecl e)[j]?:=by show(ecl e).toArray[j]?=_;simp
theorem q1u(h:EvO w base v es)(R:Row 29 w b (ec e))(hl:es.length<=5000000000)(hbase:base<=w.heap.size)(ty:TypeId):
  ∃v' w',(Builtin.append_ #[22,22] ty #[v,.slice (some ⟨b,0,none⟩) 1 1]).run prog w=.ok v' w'/\EvO w' base v' (es++[e])/\Grew v v' w w':=by
 obtain⟨i0,hi,hz0,hz1,hz2⟩:=info_parts qyu
 obtain⟨v',w',h1,h2,h3,_,h5⟩:=run_append_own_at (P:=prog) w base 22 ty 29 i0 (.agg (ec noE)) 5 40 underlying22 hi hz0 hz1 hz2 rfl (by decide) v es.length (es.flatMap ecl) h ⟨b,0,none⟩ 1 1 (ecl e) rfl
  (fun j u hu=>by rw[Addr.add_lit,Nat.zero_add];exact(R.cell j).trans ((q7d e j).trans hu)) (by intro u hu;simp[ecl] at hu;rcases hu with rfl|rfl|rfl|rfl|rfl<;>rfl) (by unfold maxLen;omega) om hbase
 refine⟨v',w',h1,?_,⟨h3,?_⟩⟩
 ·unfold EvO;rw[q2i,List.length_append];exact h2
 ·rcases h5 with e|e
  ·exact .inl e
  ·exact .inr ⟨_,e,Nat.le_refl _⟩
theorem q0a(e:Ev)(w:World):(Instr.buildSlice 22 1 #[(0,.agg (ec e))]).run prog w=.ok (.slice (some ⟨w.heap.size,0,none⟩) 1 1) (w.alloc (.cells (ec e) 29)):=by
 obtain⟨t,s,a,b,fr⟩:=e
 kernel_rfl
theorem q26(x:Operand)(ho:o.op=.buildSlice 22 1 #[(0,x)])(e:Ev)(hx:a.eval x=.agg (ec e))(hr:∀b w',w.heap.size<=b->Row 29 w' b (ec e)->Below w.heap.size w w'->K (a.put o.dst (.slice (some ⟨b,0,none⟩) 1 1)) w'):o.wp prog a w K Q:=by
 have h':=hr w.heap.size (w.alloc (.cells (ec e) 29)) (Nat.le_refl _) (Row.new _ w _) ((Below.refl _ _).alloc (Nat.le_refl _) _)
 unfold Oper.wp execOp
 simp only[ho,List.map_toArray,List.map_cons,List.map_nil,hx,Sem.run_bind,q0a,Result.andThen_ok,Sem.run_pure]
 exact h'
theorem q45(s x:Operand)(ho:o.op=.call { callee:=.builtin .append,args:=#[s,x],argTypes:=#[22,22] })(h:EvO w base v es)(R:Row 29 w b (ec e))(hs:a.eval s=v)(hx:a.eval x=.slice (some ⟨b,0,none⟩) 1 1)(hl:es.length<=5000000000)(hbase:base<=w.heap.size)(hr:∀v' w',EvO w' base v' (es++[e])->Grew v v' w w'->K (a.put o.dst v') w'):o.wp prog a w K Q:=by
 obtain⟨v',w',h1,h2,h3⟩:=q1u h R hl hbase o.type
 unfold Oper.wp execOp
 simp only[ho,resolve,invoke,builtin,Sem.run_bind,Sem.run_pure,Result.andThen_ok,List.map_toArray,List.map_cons,List.map_nil,hs,hx,h1]
 exact hr v' w' h2 h3
theorem qbj(hgd:o.guard=none)(x:Operand)(ho:o.op=.buildSlice 22 1 #[(0,x)])(e:Ev)(hx:a.eval x=.agg (ec e))(hr:∀b w',w.heap.size<=b->Row 29 w' b (ec e)->Below w.heap.size w w'->wpList prog ops Q rest (a.put o.dst (.slice (some ⟨b,0,none⟩) 1 1)) w'):wpList prog ops Q (o::rest) a w:=
 wpList_plain hgd fun K hK=>q26 x ho e hx (fun b w' h1 h2 h3=>hK _ _ (hr b w' h1 h2 h3))
theorem qwb(hgd:o.guard=none)(s x:Operand)(ho:o.op=.call { callee:=.builtin .append,args:=#[s,x],argTypes:=#[22,22] })(h:EvO w base v es)(R:Row 29 w b (ec e))(hs:a.eval s=v)(hx:a.eval x=.slice (some ⟨b,0,none⟩) 1 1)(hl:es.length<=5000000000)(hbase:base<=w.heap.size)(hr:∀v' w',EvO w' base v' (es++[e])->Grew v v' w w'->wpList prog ops Q rest (a.put o.dst v') w'):wpList prog ops Q (o::rest) a w:=
 wpList_plain hgd fun K hK=>q45 s x ho h R hs hx hl hbase (fun v' w' h1 h2=>hK _ _ (hr v' w' h1 h2))
theorem qedb(R:Row t w b cs)(x y:Operand)(ho:o.op=.store 22 x y)(f:Nat)(hx:a.eval x=V (some ⟨b,f,none⟩))(sa:Option Addr)(n c:Nat)(hy:a.eval y=.slice sa n c)(m:Value)(hc:cs[f]?=some m)(ds:Array Value)(hd:cs.setIfInBounds f (.slice sa n c)=ds)(hr:∀w',Row t w' b ds->qbl b w w'->K (a.put o.dst undef) w'):o.wp prog a w K Q:=by
 have hcell:=(R.cell f).trans hc;have hfr:=R.free f
 unfold Oper.wp execOp
 simp only[ho,hx,hy]
 simp[go_sem,hcell,hfr,underlying22]
 exact hr _ (hd▸R.set) (qfx _ _ _ _)
theorem qepb(R:Row t w b cs)(x:Operand)(ho:o.op=.load 22 x)(f:Nat)(hx:a.eval x=V (some ⟨b,f,none⟩))(v:Value)(hc:cs[f]?=some v)(hr:K (a.put o.dst v) w):o.wp prog a w K Q:=by
 have hcell:=(R.cell f).trans hc
 unfold Oper.wp execOp
 simp only[ho,hx]
 simp[go_sem,hcell,underlying22]
 exact hr
theorem qc3b(x:Operand)(ho:o.op=.load 22 x)(hw:Region.wanted o (yielded ops a.tmps)=true)(b f:Nat)(hx:a.eval x=V (some ⟨b,f,none⟩))(v:Value)(hS:∀w,S w->w.cell? ⟨b,f,none⟩=some v):YieldsIf prog ops S o v a:=
 .inl ⟨hw,fun w h=>by
  have hcell:=hS w h
  unfold execOp
  simp only[ho,hx]
  simp[go_sem,hcell,underlying22]⟩
end Go.Proofs.YtnhafdkfjjplkaaDoor
