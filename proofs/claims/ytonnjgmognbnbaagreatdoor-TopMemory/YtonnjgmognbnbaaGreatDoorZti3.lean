/-
  Of what a law stands on.
-/
import Derived.Test.YtonnjgmognbnbaaGreatDoorZti2
set_option linter.unusedSimpArgs false
set_option linter.unusedVariables false
namespace Go.Proofs.YtonnjgmognbnbaaGreatDoor
open Go.Value renaming int → I,pointer → V
open Go.IntKind renaming i64 → Z
open _root_.Go.Proofs.Tryz Go.RowKit
set_option maxHeartbeats 16000000
set_option maxRecDepth 100000
variable {p:Prop}
theorem qdv(c m n:Int)(c0:0<=c)(c1:c<=65535)(m0:0<=m)(m1:m<=65535)(n0:0<=n)(n1:n<=65535):updI c m n%65535=(c+m-n)%65535:=by
 unfold updI
 (rw[show c%65536=c by omega,show m%65536=m by omega,show n%65536=n by omega]);have h1:=qhv (65535-c+(65535-m));have h2:=qhv (bk (65535-c+(65535-m))+n)
 omega
theorem qeq(c m n:Int):0<=updI c m n/\updI c m n<=65535:=by
 unfold updI
 have:=qhn (bk (65535-c%65536+(65535-m%65536))+n%65536);omega
theorem qhs(c m n:Int)(c0:0<=c)(c1:c<=65535)(m0:0<=m)(m1:m<=65535)(n0:0<=n)(n1:n<=65535)(h:0<n\/c<65535):updI c m n<=65534:=by
 unfold updI
 (rw[show c%65536=c by omega,show m%65536=m by omega,show n%65536=n by omega]);have h1:=qhn (65535-c+(65535-m));have h2:=qo6 (65535-c+(65535-m));have h3:=q3x (bk (65535-c+(65535-m))+n) om
 omega
theorem qwq(k:Pkt)(c1 c2:Int):setW (fr k c1 c2) 8 (k.ttl*256+k.proto-256)=fr { k with ttl:=k.ttl-1 } c1 c2\/¬(0<=k.proto/\k.proto<=255):=by
 by_cases h:0<=k.proto/\k.proto<=255
 ·left
  have e1:b8 ((k.ttl*256+k.proto-256)/256)=b8 (k.ttl-1):=qeo _ _ om;have e2:b8 (k.ttl*256+k.proto-256)=b8 k.proto:=qeo _ _ om
  unfold setW
  rw[e1,e2];rfl
 ·exact .inr h
theorem sZti31(h:p:=by
 rw[E]
 unfold setW fr hd l32 w16
 simp only[List.cons_append,List.nil_append,List.set_cons_succ,List.set_cons_zero,e1,e2,e3,e4]):p:=h
theorem qte(k:Pkt)(c1 c2 a:Int):setW (fr k c1 c2) 12 a=fr { k with src:=a*65536+k.src%65536 } c1 c2:=by
 have e1:b8 (a/256)=b8 ((a*65536+k.src%65536)/65536/256):=qeo _ _ om;have e2:b8 a=b8 ((a*65536+k.src%65536)/65536):=qeo _ _ om;have e3:b8 (k.src/256)=b8 ((a*65536+k.src%65536)/256):=qeo _ _ om;have e4:b8 k.src=b8 (a*65536+k.src%65536):=qeo _ _ om;have E:fr { k with src:=a*65536+k.src%65536 } c1 c2=(hd { k with src:=a*65536+k.src%65536 } (flen k) c1)++(pt k c2++k.body.data.toList):=rfl
 exact sZti31
theorem qtw(k:Pkt)(c1 c2 a:Int)(h0:0<=a)(h1:a<=65535):setW (fr k c1 c2) 14 a=fr { k with src:=k.src/65536*65536+a } c1 c2:=by
 have e1:b8 (k.src/65536/256)=b8 ((k.src/65536*65536+a)/65536/256):=qeo _ _ om;have e2:b8 (k.src/65536)=b8 ((k.src/65536*65536+a)/65536):=qeo _ _ om;have e3:b8 (a/256)=b8 ((k.src/65536*65536+a)/256):=qeo _ _ om;have e4:b8 a=b8 (k.src/65536*65536+a):=qeo _ _ om;have E:fr { k with src:=k.src/65536*65536+a } c1 c2=(hd { k with src:=k.src/65536*65536+a } (flen k) c1)++(pt k c2++k.body.data.toList):=rfl
 exact sZti31
theorem qsr(k:Pkt)(c1 c2 a:Int):setW (fr k c1 c2) 16 a=fr { k with dst:=a*65536+k.dst%65536 } c1 c2:=by
 have e1:b8 (a/256)=b8 ((a*65536+k.dst%65536)/65536/256):=qeo _ _ om;have e2:b8 a=b8 ((a*65536+k.dst%65536)/65536):=qeo _ _ om;have e3:b8 (k.dst/256)=b8 ((a*65536+k.dst%65536)/256):=qeo _ _ om;have e4:b8 k.dst=b8 (a*65536+k.dst%65536):=qeo _ _ om;have E:fr { k with dst:=a*65536+k.dst%65536 } c1 c2=(hd { k with dst:=a*65536+k.dst%65536 } (flen k) c1)++(pt k c2++k.body.data.toList):=rfl
 exact sZti31
theorem qt1(k:Pkt)(c1 c2 a:Int)(h0:0<=a)(h1:a<=65535):setW (fr k c1 c2) 18 a=fr { k with dst:=k.dst/65536*65536+a } c1 c2:=by
 have e1:b8 (k.dst/65536/256)=b8 ((k.dst/65536*65536+a)/65536/256):=qeo _ _ om;have e2:b8 (k.dst/65536)=b8 ((k.dst/65536*65536+a)/65536):=qeo _ _ om;have e3:b8 (a/256)=b8 ((k.dst/65536*65536+a)/256):=qeo _ _ om;have e4:b8 a=b8 (k.dst/65536*65536+a):=qeo _ _ om;have E:fr { k with dst:=k.dst/65536*65536+a } c1 c2=(hd { k with dst:=k.dst/65536*65536+a } (flen k) c1)++(pt k c2++k.body.data.toList):=rfl
 exact sZti31
theorem qy3(k:Pkt)(c1 c2 a:Int)(h:k.proto≠1):setW (fr k c1 c2) 20 a=fr { k with sport:=a } c1 c2:=by
 unfold setW fr pt
 simp only[h,if_false]
 split<;>rfl
theorem q0e(k:Pkt)(c1 c2 a:Int)(h:k.proto≠1):setW (fr k c1 c2) 22 a=fr { k with dport:=a } c1 c2:=by
 unfold setW fr pt
 simp only[h,if_false]
 split<;>rfl
theorem qyn(k:Pkt)(c1 c2 a:Int)(h:k.proto=1)(hd0:k.dport=0):setW (fr k c1 c2) 24 a=fr { k with sport:=a } c1 c2:=by
 have E:fr { k with sport:=a } c1 c2=hd k (flen k) c1++(([b8 k.flags,0]++w16 c2++w16 (a+k.dport)++w16 k.seq)++k.body.data.toList):=by
  show hd k (flen k) c1++(pt { k with sport:=a } c2++k.body.data.toList)=_
  unfold pt;rw[if_pos h]
 rw[E,hd0,Int.add_zero]
 unfold setW fr pt
 rw[if_pos h]
 rfl
theorem qyk(k:Pkt)(c1 c2 a:Int)(h:k.proto=1)(hd0:k.sport=0):setW (fr k c1 c2) 24 a=fr { k with dport:=a } c1 c2:=by
 have E:fr { k with dport:=a } c1 c2=hd k (flen k) c1++(([b8 k.flags,0]++w16 c2++w16 (k.sport+a)++w16 k.seq)++k.body.data.toList):=by
  show hd k (flen k) c1++(pt { k with dport:=a } c2++k.body.data.toList)=_
  unfold pt;rw[if_pos h]
 rw[E,hd0,Int.zero_add]
 unfold setW fr pt
 rw[if_pos h]
 rfl
theorem qhk(x:Int):((b8 (x/256)).toNat:Int)*256+((b8 x).toNat:Int)=x%65536:=by rw[qc1,qc1];omega
section
variable (k:Pkt) (c1 c2:Int)
theorem qrz:wAt (fr k c1 c2) 8=k.ttl%256*256+k.proto%256:=by rw[←qc1,←qc1];rfl
theorem q69(h0:0<=c1)(h1:c1<=65535):wAt (fr k c1 c2) 10=c1:=(qhk c1).trans om
theorem qyd:wAt (fr k c1 c2) 12=k.src/65536%65536:=qhk (k.src/65536)
theorem qxs:wAt (fr k c1 c2) 14=k.src%65536:=qhk k.src
theorem qyb:wAt (fr k c1 c2) 16=k.dst/65536%65536:=qhk (k.dst/65536)
theorem qyi:wAt (fr k c1 c2) 18=k.dst%65536:=qhk k.dst
theorem q5v(h:k.proto≠1):wAt (fr k c1 c2) 20=k.sport%65536:=by
 refine Eq.trans ?_ (qhk k.sport)
 unfold fr pt
 simp only[h,if_false]
 split<;>rfl
theorem q43(h:k.proto≠1):wAt (fr k c1 c2) 22=k.dport%65536:=by
 refine Eq.trans ?_ (qhk k.dport)
 unfold fr pt
 simp only[h,if_false]
 split<;>rfl
theorem qyg(h:k.proto=1):wAt (fr k c1 c2) 24=(k.sport+k.dport)%65536:=by
 refine Eq.trans ?_ (qhk (k.sport+k.dport))
 unfold fr pt
 simp only[h,if_true]
 rfl
theorem qz4(hk:qdc k.proto=true)(h0:0<=c2)(h1:c2<=65535):wAt (fr k c1 c2) (qbd k.proto)=c2:=by
 refine Eq.trans ?_ ((qhk c2).trans om)
 unfold fr pt qbd
 unfold qdc at hk
 simp at hk
 rcases hk with(h|h)|h<;>simp only[h]<;>rfl
end
theorem qm7(p:Pkt)(len:Int):tot (hd p len 0)=17664+len%65536+p.id%65536+(p.ttl%256*256+p.proto%256)+(p.src/65536%65536+p.src%65536)+(p.dst/65536%65536+p.dst%65536):=by
 unfold hd
 simp only[List.append_assoc]
 rw[qa8 _ [69,0] zm,qa8 _ (w16 len) zm,qa8 _ (w16 p.id) zm,qa8 _ (w16 0) zm,qa8 _ [b8 p.ttl,b8 p.proto] zm,qa8 _ (w16 0) zm,qa8 _ (l32 p.src) zm,
  qe2,qe2,qe2,qpd,qpd]
 simp[tot,qc1];omega
def qhy(p:Pkt):Int:=if p.proto=1 then(p.sport+p.dport)%65536 else p.sport%65536+p.dport%65536
def qhz(p:Pkt):Int:=if p.proto=1 then 0 else p.src/65536%65536+p.src%65536+(p.dst/65536%65536+p.dst%65536)
def qez(p:Pkt):Int:=if p.proto=1 then p.flags%256*256+p.seq%65536+tot p.body.data.toList
 else if p.proto=17 then 17+(8+p.body.size)%65536+(8+p.body.size)%65536+tot p.body.data.toList
 else p.proto%65536+(qb4 p.proto+p.body.size)%65536+p.seq/65536%65536+p.seq%65536+p.ack/65536%65536+p.ack%65536+20480+p.flags%256+p.win%65536+tot p.body.data.toList
theorem qjd(p:Pkt):allP p 0=qhz p+qhy p+qez p:=by
 unfold allP
 rw[qa8 _ _ (qsl _ _ _ _),qa8 _ _ (qr4 _ _)]
 unfold ps pt qhz qhy qez
 by_cases h1:p.proto=1
 ·simp only[h1,if_true,List.append_assoc]
  rw[qa8 _ [b8 p.flags,0] zm,qa8 _ (w16 0) zm,qa8 _ (w16 _) zm,qe2,qe2,qe2]
  simp[tot,qc1];omega
 ·by_cases h2:p.proto=17
  ·simp only[h2,if_true,List.append_assoc,if_neg (show ¬(17:Int)=1 by omega),show qb4 17=8 from rfl]
   rw[qa8 _ (l32 _) zm,qa8 _ (l32 _) zm,qa8 _ (w16 17) zm,qa8 _ (w16 _) zm,qa8 _ (w16 _) zm,qa8 _ (w16 _) zm]
   simp only[qe2,qpd];omega
  ·simp only[h1,h2,if_false,List.append_assoc]
   rw[qa8 _ (l32 _) zm,qa8 _ (l32 _) zm,qa8 _ (w16 p.proto) zm,qa8 _ (w16 p.sport) zm,qa8 _ (w16 p.dport) zm,qa8 _ (l32 p.seq) zm,qa8 _ (l32 p.ack) zm,qa8 _ [80,b8 p.flags] zm,qa8 _ (w16 p.win) zm,qa8 _ (w16 0) zm]
   simp only[qe2,qpd]
   simp[tot,qc1];omega
theorem qhf(k k':Pkt)(c1 c2 n m:Int)(pos:Nat)(hset:∀c1 c2,setW (fr k c1 c2) pos n=fr k' c1 c2)(hm:∀c1 c2,wAt (fr k c1 c2) pos=m)(h0:0<=c1)(h1:c1<=65535):moved (fr k c1 c2) pos n [10]=fr k' (updI c1 m n) c2:=by
 unfold moved chks chk1
 simp only[List.foldl_cons,List.foldl_nil]
 rw[hm,q69 _ _ _ h0 h1,qt0,hset]
theorem qkz(k k':Pkt)(c1 c2 n m:Int)(pos:Nat)(hk:qdc k.proto=true)(hset:∀c1 c2,setW (fr k c1 c2) pos n=fr k' c1 c2)(hm:∀c1 c2,wAt (fr k c1 c2) pos=m)(h0:0<=c2)(h1:c2<=65535):moved (fr k c1 c2) pos n [qbd k.proto]=fr k' c1 (updI c2 m n):=by
 unfold moved chks chk1
 simp only[List.foldl_cons,List.foldl_nil]
 rw[hm,qz4 _ _ _ hk h0 h1,qj7 _ _ _ _ hk,hset]
theorem qk4(k k':Pkt)(c1 c2 n m:Int)(pos:Nat)(hk:qdc k.proto=true)(hset:∀c1 c2,setW (fr k c1 c2) pos n=fr k' c1 c2)(hm:∀c1 c2,wAt (fr k c1 c2) pos=m)(h0:0<=c1)(h1:c1<=65535)(h2:0<=c2)(h3:c2<=65535):moved (fr k c1 c2) pos n [10,qbd k.proto]=fr k' (updI c1 m n) (updI c2 m n):=by
 unfold moved chks chk1
 simp only[List.foldl_cons,List.foldl_nil]
 rw[hm,q69 _ _ _ h0 h1,qt0,hm,qz4 _ _ _ hk h2 h3,qj7 _ _ _ _ hk,hset]
def turned(k:Pkt)(side addr port:Int):Pkt:=if side=0 then { k with ttl:=k.ttl-1,src:=addr,sport:=port } else { k with ttl:=k.ttl-1,dst:=addr,dport:=port }
theorem qko(q:Pkt)(c1 c2:Int)(hk:qdc q.proto=true)(h0:0<=c1)(h1:c1<=65534)(h2:0<=c2)(h3:c2<=65535)(m1:(c1+tot (hd q (flen q) 0))%65535=0)(m2:(c2+allP q 0)%65535=0):
  qg8 (fr q c1 c2) q.proto=frame q:=by
 have e1:c1=chkH q:=by
  have a:=qr6 q;have b:=qhv (tot (hd q (flen q) 0))
  unfold chkH at *;omega
 unfold qg8 frame
 rw[qz4 _ _ _ hk h2 h3]
 by_cases ht:twoB c2=true
 ·rw[if_pos ht]
  have e2:qgf (fr q c1 c2) q.proto=qgf (fr q c1 0) q.proto:=by
   unfold qgf;simp only[qj7 _ _ _ _ hk]
  rw[e2,qwj _ _ hk,e1]
 ·rw[if_neg ht];have e3:qnl q=65535-bk (allP q 0):=rfl;have b:=qhv (allP q 0);have d:=qhn (allP q 0);(have t:c2≠0/\c2≠65535:=by unfold twoB at ht;simpa using ht);(have e4:qnl q=c2:=by omega);(have e5:chkP q=c2:=by unfold chkP;rw[if_neg om,e4]);rw[e5,e1]
theorem qrn(c1 d1 d2 d3 t0 t1 x1 x2 y1 y2 r:Int)(h1:d1%65535=(c1+t0-t1)%65535)(h2:d2%65535=(d1+x1-y1)%65535)(h3:d3%65535=(d2+x2-y2)%65535)(h:(c1+(r+t0+x1+x2))%65535=0):(d3+(r+t1+y1+y2))%65535=0:=by omega
theorem sZti32(h:p:=by
 (have e:wAt (fr k c1 c2) 8=k.ttl*256+k.proto:=by rw[qrz];omega)
 have:=qhf k { k with ttl:=k.ttl-1 } c1 c2 (k.ttl*256+k.proto-256) (k.ttl*256+k.proto) 8 (fun a b=>by rcases qwq k a b with x|x;exact x;omega) (fun a b=>by rw[qrz];omega) h0 h1
 unfold aged;rw[e];exact this):p:=h
theorem qxi(k:Pkt)(c1 c2 side addr port:Int)(hg:good k=0)(hp1:k.proto=1)(hs:side=0\/side=1)(ha:0<=addr/\addr<=4294967295)(hp:0<=port/\port<=65535)(_ht:k.ttl≠1)(hf:(k.flags==8)=(side==0))(h0:0<=c1)(h1:c1<=65535)(h2:0<=c2)(h3:c2<=65535)(m1:(c1+tot (hd k (flen k) 0))%65535=0)(m2:(c2+allP k 0)%65535=0):
  spun (fr k c1 c2) k.proto side addr port=frame (turned k side addr port):=by
 obtain⟨hk,hr,hb,hfm⟩:=qde k hg;have R:=(qdu k).1 hr;have F:=((qjo k).1 hfm).1 hp1
 rw[qm7] at m1
 rw[qjd] at m2
 have A:aged (fr k c1 c2)=fr { k with ttl:=k.ttl-1 } (updI c1 (k.ttl*256+k.proto) (k.ttl*256+k.proto-256)) c2:=by
  exact sZti32
 refine m6g ?_;intro u1 l1 b1
 unfold spun
 rw[A]
 generalize updI c1 (k.ttl * 256+k.proto) (k.ttl * 256+k.proto - 256)=d1 at *
 clear A
 unfold qjz qg9 qes
 rw[if_pos hp1,if_pos hp1]
 rcases hs with rfl|rfl
 ·(have hfl:k.flags=8:=by simpa using hf);(have hdp:k.dport=0:=by rcases F.1 with x|x<;>omega);rw[show qld 0=12 from rfl]
  rw[qhf { k with ttl:=k.ttl-1 } { k with ttl:=k.ttl-1,src:=addr/65536*65536+k.src%65536 } d1 c2 (addr/65536) (k.src/65536) 12 (fun a b=>qte _ a b _) (fun a b=>by rw[qyd];show k.src/65536%65536=_;omega) b1.1 om]
  refine m8h ?_;intro u2 l2 b2
  generalize updI d1 (k.src/65536) (addr/65536)=d2 at *
  rw[qhf { k with ttl:=k.ttl-1,src:=addr/65536*65536+k.src%65536 } { k with ttl:=k.ttl-1,src:=addr } d2 c2 (addr%65536) (k.src%65536) 14 (fun a b=>by rw[qtw _ a b _ om om];congr 2;show(addr/65536*65536+k.src%65536)/65536*65536+addr%65536=addr;omega) (fun a b=>by rw[qxs];show(addr/65536*65536+k.src%65536)%65536=_;omega) b2.1 om]
  refine m8i ?_;intro u3 l3 b3
  generalize updI d2 (k.src % 65536) (addr % 65536)=d3 at *
  (have P:=qkz { k with ttl:=k.ttl-1,src:=addr } { k with ttl:=k.ttl-1,src:=addr,sport:=port } d3 c2 port k.sport 24 hk (fun a b=>qyn _ a b _ hp1 hdp) (fun a b=>by rw[qyg _ _ _ (by exact hp1)];show(k.sport+k.dport)%65536=_;omega) h2 h3)
  rw[show({ k with ttl:=k.ttl-1,src:=addr }:Pkt).proto=k.proto from rfl] at P
  rw[P];have u4:=qdv c2 k.sport port h2 h3 om om om om;have b4:=qeq c2 k.sport port
  generalize updI c2 k.sport port=d4 at *
  have S:=qko { k with ttl:=k.ttl-1,src:=addr,sport:=port } d3 d4 hk om om om om
   (by
    (have e1:17664+flen k%65536+k.id%65536+(k.ttl%256*256+k.proto%256)+(k.src/65536%65536+k.src%65536)+(k.dst/65536%65536+k.dst%65536)=17664+flen k%65536+k.id%65536+(k.dst/65536%65536+k.dst%65536)+(k.ttl*256+k.proto)+k.src/65536+k.src%65536:=by clear u1 u2 u3 u4 m1 m2;omega);(have e2:17664+flen k%65536+k.id%65536+((k.ttl-1)%256*256+k.proto%256)+(addr/65536%65536+addr%65536)+(k.dst/65536%65536+k.dst%65536)=17664+flen k%65536+k.id%65536+(k.dst/65536%65536+k.dst%65536)+(k.ttl*256+k.proto-256)+addr/65536+addr%65536:=by clear u1 u2 u3 u4 m1 m2;omega)
    rw[e1] at m1
    rw[qm7];show(d3+(17664+flen k%65536+k.id%65536+((k.ttl-1)%256*256+k.proto%256)+(addr/65536%65536+addr%65536)+(k.dst/65536%65536+k.dst%65536)))%65535=0
    rw[e2];exact qrn _ _ _ _ _ _ _ _ _ _ _ u1 u2 u3 m1)
   (by rw[qjd];unfold qhz qhy qez at *;simp only[hp1,if_true] at *;omega)
  exact S
 ·(have hfl:k.flags≠8:=by simpa using hf);(have hdp:k.sport=0:=by rcases F.1 with x|x<;>omega);rw[show qld 1=16 from rfl]
  rw[qhf { k with ttl:=k.ttl-1 } { k with ttl:=k.ttl-1,dst:=addr/65536*65536+k.dst%65536 } d1 c2 (addr/65536) (k.dst/65536) 16 (fun a b=>qsr _ a b _) (fun a b=>by rw[qyb];show k.dst/65536%65536=_;omega) b1.1 om]
  refine m8j ?_;intro u2 l2 b2
  generalize updI d1 (k.dst/65536) (addr/65536)=d2 at *
  rw[qhf { k with ttl:=k.ttl-1,dst:=addr/65536*65536+k.dst%65536 } { k with ttl:=k.ttl-1,dst:=addr } d2 c2 (addr%65536) (k.dst%65536) 18 (fun a b=>by rw[qt1 _ a b _ om om];congr 2;show(addr/65536*65536+k.dst%65536)/65536*65536+addr%65536=addr;omega) (fun a b=>by rw[qyi];show(addr/65536*65536+k.dst%65536)%65536=_;omega) b2.1 om]
  refine m8k ?_;intro u3 l3 b3
  generalize updI d2 (k.dst % 65536) (addr % 65536)=d3 at *
  (have P:=qkz { k with ttl:=k.ttl-1,dst:=addr } { k with ttl:=k.ttl-1,dst:=addr,dport:=port } d3 c2 port k.dport 24 hk (fun a b=>qyk _ a b _ hp1 hdp) (fun a b=>by rw[qyg _ _ _ (by exact hp1)];show(k.sport+k.dport)%65536=_;omega) h2 h3)
  rw[show({ k with ttl:=k.ttl-1,dst:=addr }:Pkt).proto=k.proto from rfl] at P
  rw[P];have u4:=qdv c2 k.dport port h2 h3 om om om om;have b4:=qeq c2 k.dport port
  generalize updI c2 k.dport port=d4 at *
  have S:=qko { k with ttl:=k.ttl-1,dst:=addr,dport:=port } d3 d4 hk om om om om
   (by
    (have e1:17664+flen k%65536+k.id%65536+(k.ttl%256*256+k.proto%256)+(k.src/65536%65536+k.src%65536)+(k.dst/65536%65536+k.dst%65536)=17664+flen k%65536+k.id%65536+(k.src/65536%65536+k.src%65536)+(k.ttl*256+k.proto)+k.dst/65536+k.dst%65536:=by clear u1 u2 u3 u4 m1 m2;omega);(have e2:17664+flen k%65536+k.id%65536+((k.ttl-1)%256*256+k.proto%256)+(k.src/65536%65536+k.src%65536)+(addr/65536%65536+addr%65536)=17664+flen k%65536+k.id%65536+(k.src/65536%65536+k.src%65536)+(k.ttl*256+k.proto-256)+addr/65536+addr%65536:=by clear u1 u2 u3 u4 m1 m2;omega)
    rw[e1] at m1
    rw[qm7];show(d3+(17664+flen k%65536+k.id%65536+((k.ttl-1)%256*256+k.proto%256)+(k.src/65536%65536+k.src%65536)+(addr/65536%65536+addr%65536)))%65535=0
    rw[e2];exact qrn _ _ _ _ _ _ _ _ _ _ _ u1 u2 u3 m1)
   (by rw[qjd];unfold qhz qhy qez at *;simp only[hp1,if_true] at *;omega)
  exact S
theorem qxz(c1 d1 d2 d3 x1 x2 y1 y2 x3 y3 r:Int)(h1:d1%65535=(c1+x1-y1)%65535)(h2:d2%65535=(d1+x2-y2)%65535)(h3:d3%65535=(d2+x3-y3)%65535)(h:(c1+(r+x1+x2+x3))%65535=0):(d3+(r+y1+y2+y3))%65535=0:=by omega
theorem sZti34(h:p:=by
 unfold qhz qhy;rw[if_neg (by exact hp1),if_neg (by exact hp1)];clear u1 u2 u3 u4 v2 v3 m1 m2;simp only[];omega):p:=h
theorem quu(k:Pkt)(c1 c2 side addr port:Int)(hg:good k=0)(hp1:k.proto≠1)(hs:side=0\/side=1)(ha:0<=addr/\addr<=4294967295)(hp:0<=port/\port<=65535)(_ht:k.ttl≠1)(h0:0<=c1)(h1:c1<=65535)(h2:0<=c2)(h3:c2<=65535)(m1:(c1+tot (hd k (flen k) 0))%65535=0)(m2:(c2+allP k 0)%65535=0):
  spun (fr k c1 c2) k.proto side addr port=frame (turned k side addr port):=by
 obtain⟨hk,hr,hb,hfm⟩:=qde k hg;have R:=(qdu k).1 hr;have K:=(qei _).1 hk
 rw[qm7] at m1
 rw[qjd] at m2
 have A:aged (fr k c1 c2)=fr { k with ttl:=k.ttl-1 } (updI c1 (k.ttl*256+k.proto) (k.ttl*256+k.proto-256)) c2:=by
  exact sZti32
 refine m6g ?_;intro u1 l1 b1
 unfold spun
 rw[A]
 generalize updI c1 (k.ttl * 256+k.proto) (k.ttl * 256+k.proto - 256)=d1 at *
 clear A
 unfold qjz qg9 qes
 rw[if_neg hp1,if_neg hp1]
 rcases hs with rfl|rfl
 ·rw[show qld 0=12 from rfl,if_pos rfl];have M1:=qk4 { k with ttl:=k.ttl-1 } { k with ttl:=k.ttl-1,src:=addr/65536*65536+k.src%65536 } d1 c2 (addr/65536) (k.src/65536) 12 hk (fun a b=>qte _ a b _) (fun a b=>by rw[qyd];show k.src/65536%65536=_;omega) b1.1 om h2 h3
  rw[show({ k with ttl:=k.ttl-1 }:Pkt).proto=k.proto from rfl] at M1
  rw[M1];clear M1;refine m8h ?_;intro u2 l2 b2
  generalize updI d1 (k.src/65536) (addr/65536)=d2 at *
  have v2:=qdv c2 (k.src/65536) (addr/65536) h2 h3 om om om om;have f2:=qeq c2 (k.src/65536) (addr/65536)
  generalize updI c2 (k.src/65536) (addr/65536)=e2 at *
  (have M2:=qk4 { k with ttl:=k.ttl-1,src:=addr/65536*65536+k.src%65536 } { k with ttl:=k.ttl-1,src:=addr } d2 e2 (addr%65536) (k.src%65536) 14 hk (fun a b=>by rw[qtw _ a b _ om om];congr 2;show(addr/65536*65536+k.src%65536)/65536*65536+addr%65536=addr;omega) (fun a b=>by rw[qxs];show(addr/65536*65536+k.src%65536)%65536=_;omega) b2.1 om f2.1 f2.2)
  rw[show({ k with ttl:=k.ttl-1,src:=addr/65536*65536+k.src%65536 }:Pkt).proto=k.proto from rfl] at M2
  rw[M2];clear M2;refine m8i ?_;intro u3 l3 b3
  generalize updI d2 (k.src % 65536) (addr % 65536)=d3 at *
  have v3:=qdv e2 (k.src%65536) (addr%65536) f2.1 f2.2 om om om om;have f3:=qeq e2 (k.src%65536) (addr%65536)
  generalize updI e2 (k.src % 65536) (addr % 65536)=e3 at *
  (have P:=qkz { k with ttl:=k.ttl-1,src:=addr } { k with ttl:=k.ttl-1,src:=addr,sport:=port } d3 e3 port k.sport 20 hk (fun a b=>qy3 _ a b _ hp1) (fun a b=>by rw[q5v _ _ _ (by exact hp1)];show k.sport%65536=_;omega) f3.1 f3.2)
  rw[show({ k with ttl:=k.ttl-1,src:=addr }:Pkt).proto=k.proto from rfl] at P
  rw[P];clear P;have u4:=qdv e3 k.sport port f3.1 f3.2 om om om om;have b4:=qeq e3 k.sport port
  generalize updI e3 k.sport port=d4 at *
  have S:=qko { k with ttl:=k.ttl-1,src:=addr,sport:=port } d3 d4 hk om om om om
   (by
    (have e1:17664+flen k%65536+k.id%65536+(k.ttl%256*256+k.proto%256)+(k.src/65536%65536+k.src%65536)+(k.dst/65536%65536+k.dst%65536)=17664+flen k%65536+k.id%65536+(k.dst/65536%65536+k.dst%65536)+(k.ttl*256+k.proto)+k.src/65536+k.src%65536:=by clear u1 u2 u3 u4 v2 v3 m1 m2;omega);(have e2:17664+flen k%65536+k.id%65536+((k.ttl-1)%256*256+k.proto%256)+(addr/65536%65536+addr%65536)+(k.dst/65536%65536+k.dst%65536)=17664+flen k%65536+k.id%65536+(k.dst/65536%65536+k.dst%65536)+(k.ttl*256+k.proto-256)+addr/65536+addr%65536:=by clear u1 u2 u3 u4 v2 v3 m1 m2;omega)
    rw[e1] at m1
    rw[qm7];show(d3+(17664+flen k%65536+k.id%65536+((k.ttl-1)%256*256+k.proto%256)+(addr/65536%65536+addr%65536)+(k.dst/65536%65536+k.dst%65536)))%65535=0
    rw[e2];exact qrn _ _ _ _ _ _ _ _ _ _ _ u1 u2 u3 m1)
   (by
    (have e1:qhz k+qhy k+qez k=qez k+(k.dst/65536%65536+k.dst%65536)+k.dport+k.src/65536+k.src%65536+k.sport:=by unfold qhz qhy;rw[if_neg hp1,if_neg hp1];clear u1 u2 u3 u4 v2 v3 m1 m2;omega)
    have e2:qhz { k with ttl:=k.ttl-1,src:=addr,sport:=port } + qhy { k with ttl:=k.ttl-1,src:=addr,sport:=port } + qez { k with ttl:=k.ttl-1,src:=addr,sport:=port }=qez k+(k.dst/65536%65536+k.dst%65536)+k.dport+addr/65536+addr%65536+port:=by
     rw[show qez { k with ttl:=k.ttl-1,src:=addr,sport:=port }=qez k from rfl]
     exact sZti34
    rw[e1] at m2;rw[qjd,e2];exact qxz _ _ _ _ _ _ _ _ _ _ _ v2 v3 u4 m2)
  exact S
 ·rw[show qld 1=16 from rfl,if_neg om];have M1:=qk4 { k with ttl:=k.ttl-1 } { k with ttl:=k.ttl-1,dst:=addr/65536*65536+k.dst%65536 } d1 c2 (addr/65536) (k.dst/65536) 16 hk (fun a b=>qsr _ a b _) (fun a b=>by rw[qyb];show k.dst/65536%65536=_;omega) b1.1 om h2 h3
  rw[show({ k with ttl:=k.ttl-1 }:Pkt).proto=k.proto from rfl] at M1
  rw[M1];clear M1;refine m8j ?_;intro u2 l2 b2
  generalize updI d1 (k.dst/65536) (addr/65536)=d2 at *
  have v2:=qdv c2 (k.dst/65536) (addr/65536) h2 h3 om om om om;have f2:=qeq c2 (k.dst/65536) (addr/65536)
  generalize updI c2 (k.dst/65536) (addr/65536)=e2 at *
  (have M2:=qk4 { k with ttl:=k.ttl-1,dst:=addr/65536*65536+k.dst%65536 } { k with ttl:=k.ttl-1,dst:=addr } d2 e2 (addr%65536) (k.dst%65536) 18 hk (fun a b=>by rw[qt1 _ a b _ om om];congr 2;show(addr/65536*65536+k.dst%65536)/65536*65536+addr%65536=addr;omega) (fun a b=>by rw[qyi];show(addr/65536*65536+k.dst%65536)%65536=_;omega) b2.1 om f2.1 f2.2)
  rw[show({ k with ttl:=k.ttl-1,dst:=addr/65536*65536+k.dst%65536 }:Pkt).proto=k.proto from rfl] at M2
  rw[M2];clear M2;refine m8k ?_;intro u3 l3 b3
  generalize updI d2 (k.dst % 65536) (addr % 65536)=d3 at *
  have v3:=qdv e2 (k.dst%65536) (addr%65536) f2.1 f2.2 om om om om;have f3:=qeq e2 (k.dst%65536) (addr%65536)
  generalize updI e2 (k.dst % 65536) (addr % 65536)=e3 at *
  (have P:=qkz { k with ttl:=k.ttl-1,dst:=addr } { k with ttl:=k.ttl-1,dst:=addr,dport:=port } d3 e3 port k.dport 22 hk (fun a b=>q0e _ a b _ hp1) (fun a b=>by rw[q43 _ _ _ (by exact hp1)];show k.dport%65536=_;omega) f3.1 f3.2)
  rw[show({ k with ttl:=k.ttl-1,dst:=addr }:Pkt).proto=k.proto from rfl] at P
  rw[P];clear P;have u4:=qdv e3 k.dport port f3.1 f3.2 om om om om;have b4:=qeq e3 k.dport port
  generalize updI e3 k.dport port=d4 at *
  have S:=qko { k with ttl:=k.ttl-1,dst:=addr,dport:=port } d3 d4 hk om om om om
   (by
    (have e1:17664+flen k%65536+k.id%65536+(k.ttl%256*256+k.proto%256)+(k.src/65536%65536+k.src%65536)+(k.dst/65536%65536+k.dst%65536)=17664+flen k%65536+k.id%65536+(k.src/65536%65536+k.src%65536)+(k.ttl*256+k.proto)+k.dst/65536+k.dst%65536:=by clear u1 u2 u3 u4 v2 v3 m1 m2;omega);(have e2:17664+flen k%65536+k.id%65536+((k.ttl-1)%256*256+k.proto%256)+(k.src/65536%65536+k.src%65536)+(addr/65536%65536+addr%65536)=17664+flen k%65536+k.id%65536+(k.src/65536%65536+k.src%65536)+(k.ttl*256+k.proto-256)+addr/65536+addr%65536:=by clear u1 u2 u3 u4 v2 v3 m1 m2;omega)
    rw[e1] at m1
    rw[qm7];show(d3+(17664+flen k%65536+k.id%65536+((k.ttl-1)%256*256+k.proto%256)+(k.src/65536%65536+k.src%65536)+(addr/65536%65536+addr%65536)))%65535=0
    rw[e2];exact qrn _ _ _ _ _ _ _ _ _ _ _ u1 u2 u3 m1)
   (by
    (have e1:qhz k+qhy k+qez k=qez k+(k.src/65536%65536+k.src%65536)+k.sport+k.dst/65536+k.dst%65536+k.dport:=by unfold qhz qhy;rw[if_neg hp1,if_neg hp1];clear u1 u2 u3 u4 v2 v3 m1 m2;omega)
    have e2:qhz { k with ttl:=k.ttl-1,dst:=addr,dport:=port } + qhy { k with ttl:=k.ttl-1,dst:=addr,dport:=port } + qez { k with ttl:=k.ttl-1,dst:=addr,dport:=port }=qez k+(k.src/65536%65536+k.src%65536)+k.sport+addr/65536+addr%65536+port:=by
     rw[show qez { k with ttl:=k.ttl-1,dst:=addr,dport:=port }=qez k from rfl]
     exact sZti34
    rw[e1] at m2;rw[qjd,e2];exact qxz _ _ _ _ _ _ _ _ _ _ _ v2 v3 u4 m2)
  exact S
theorem qq0(k:Pkt)(c1 c2 side addr port:Int)(hg:good k=0)(hs:side=0\/side=1)(ha:0<=addr/\addr<=4294967295)(hp:0<=port/\port<=65535)(ht:k.ttl≠1)(hf:k.proto=1->(k.flags==8)=(side==0))(h0:0<=c1)(h1:c1<=65535)(h2:0<=c2)(h3:c2<=65535)(m1:(c1+tot (hd k (flen k) 0))%65535=0)(m2:(c2+allP k 0)%65535=0):
  spun (fr k c1 c2) k.proto side addr port=frame (turned k side addr port):=by
 by_cases hp1:k.proto=1
 ·exact qxi k c1 c2 side addr port hg hp1 hs ha hp ht (hf hp1) h0 h1 h2 h3 m1 m2
 ·exact quu k c1 c2 side addr port hg hp1 hs ha hp ht h0 h1 h2 h3 m1 m2
theorem sZti33(h:p:=by
 rw[e,if_neg (by simp[hk]),if_neg (by simp only[Bool.not_eq_false];rw[qdu];simp only[];omega),if_neg (by simp only[];omega),if_neg ?_]
 simp only[Bool.not_eq_false];rw[qjo];simp only[]
 refine⟨fun h=>?_,F.2⟩
 have:=F.1 h;have:=hf h;simp at this;omega):p:=h
theorem qqa(k:Pkt)(side addr port:Int)(hg:good k=0)(hs:side=0\/side=1)(ha:0<=addr/\addr<=4294967295)(hp:0<=port/\port<=65535)(ht:k.ttl≠1)(hf:k.proto=1->(k.flags==8)=(side==0)):good (turned k side addr port)=0:=by
 obtain⟨hk,hr,hb,hfm⟩:=qde k hg;have R:=(qdu k).1 hr;have F:=(qjo k).1 hfm
 unfold good
 rcases hs with rfl|rfl
 ·have e:turned k 0 addr port={ k with ttl:=k.ttl-1,src:=addr,sport:=port }:=rfl
  exact sZti33
 ·have e:turned k 1 addr port={ k with ttl:=k.ttl-1,dst:=addr,dport:=port }:=rfl
  exact sZti33
theorem q5o(k:Pkt):(chkH k+tot (hd k (flen k) 0))%65535=0:=by
 have:=qhv (tot (hd k (flen k) 0));unfold chkH;omega
theorem q6h(k:Pkt):(chkP k+allP k 0)%65535=0:=by
 have:=qhv (allP k 0)
 have e:qnl k=65535-bk (allP k 0):=rfl
 unfold chkP;split<;>omega
theorem qze(k:Pkt)(side addr port:Int)(hg:good k=0)(hs:side=0\/side=1)(ha:0<=addr/\addr<=4294967295)(hp:0<=port/\port<=65535)(ht:k.ttl≠1)(hf:k.proto=1->(k.flags==8)=(side==0)):
  spun (frame k) k.proto side addr port=frame (turned k side addr port):=by
 have a:=qr6 k;have b:=qsa k
 exact qq0 k _ _ side addr port hg hs ha hp ht hf a.1 om b.1 b.2 (q5o k) (q6h k)
section
open Go.ChangeShapes Go.WideShapes Go.ChangeAt
def qcb(l:List UInt8)(side addr port:Int):Int:=
 if bad l≠0 then bad l else if side≠0/\side≠1 then 2 else if qeb addr=false then 2 else if qc7 port=false then 2 else if (qam l).ttl=1 then 12 else if (qam l).proto=1/\((qam l).flags==8)≠(side==0) then 4 else 0
def qc5(l:List UInt8)(side addr port:Int):ByteArray:=if qcb l side addr port=0 then txt (spun l (qam l).proto side addr port) else ByteArray.empty
theorem qfq(l:List UInt8):(qam l).proto=byt l 9:=by
 unfold qam
 by_cases h1:byt l 9=1
 ·rw[if_pos h1];exact h1.symm
 ·rw[if_neg h1]
  by_cases h2:byt l 9=6
  ·rw[if_pos h2];exact h2.symm
  ·rw[if_neg h2]
theorem qvz(s:ByteArray)(side addr port:Int)(w:World)(hs:s.size<=140737488351232):
  Calls prog 94 #[.string s,I Z side,I Z addr,I Z port] w fun e w'=>e=.returned (.tuple #[.string (qc5 s.data.toList side addr port),I Z (qcb s.data.toList side addr port)])/\Below w.heap.size w w':=by
 unfold qc5
 by_cases hb:bad s.data.toList=0
 ·(have hk:qb9 s.data.toList=qam s.data.toList:=by unfold qb9;rw[if_pos hb])
  by_cases h0:side≠0/\side≠1
  ·(have e:qcb s.data.toList side addr port=2:=by unfold qcb;rw[if_neg om,if_pos h0])
   rw[e];exact q1j s side addr port w hs _ rfl hb h0.1 h0.2
  by_cases ha:qeb addr=false
  ·(have e:qcb s.data.toList side addr port=2:=by unfold qcb;rw[if_neg om,if_neg h0,if_pos ha])
   rw[e];exact q4e s side addr port w hs _ rfl hb om ha
  by_cases hp:qc7 port=false
  ·(have e:qcb s.data.toList side addr port=2:=by unfold qcb;rw[if_neg om,if_neg h0,if_neg ha,if_pos hp])
   rw[e];exact q34 s side addr port w hs _ rfl hb om (by simpa using ha) hp
  by_cases h1:(qam s.data.toList).ttl=1
  ·(have e:qcb s.data.toList side addr port=12:=by unfold qcb;rw[if_neg om,if_neg h0,if_neg ha,if_neg hp,if_pos h1])
   rw[e];exact q2n s side addr port w hs _ hk hb om (by simpa using ha) (by simpa using hp) h1
  by_cases h2:(qam s.data.toList).proto=1/\((qam s.data.toList).flags==8)≠(side==0)
  ·(have e:qcb s.data.toList side addr port=4:=by unfold qcb;rw[if_neg om,if_neg h0,if_neg ha,if_neg hp,if_neg h1,if_pos h2])
   rw[e];exact q3e s side addr port w hs _ hk hb om (by simpa using ha) (by simpa using hp) h1 h2.1 h2.2
  (have e:qcb s.data.toList side addr port=0:=by unfold qcb;rw[if_neg om,if_neg h0,if_neg ha,if_neg hp,if_neg h1,if_neg h2]);rw[e,if_pos rfl]
  obtain⟨H,P,_⟩:=qgi _ hb
  have hpl:=qge _ H.kind;have hln:=P.len;have hll:=qb6 s;have hK:=(qei _).1 H.kind
  refine q8d s side addr port w hs _ hk hb om (by simpa using ha) (by simpa using hp) h1 (fun h3=>?_) om ?_ ?_
  ·by_cases h4:((qam s.data.toList).flags==8)=(side==0)
   ·exact h4
   ·exact absurd ⟨h3,h4⟩ h2
  ·have:=H.small;omega
  ·rw[qfq]
   unfold qb4 at hln
   unfold qbd
   rcases hK with h|h|h<;>simp only[h] at hln ⊢ <;> simp at hln ⊢ <;> omega
 ·(have e:qcb s.data.toList side addr port=bad s.data.toList:=by unfold qcb;rw[if_pos hb])
  rw[e,if_neg hb];exact q60 s side addr port w hs _ rfl _ rfl hb
theorem qy9(k:Pkt)(side addr port:Int)(hg:good k=0)(h:qcb (frame k) side addr port=0):qc5 (frame k) side addr port=txt (frame (turned k side addr port))/\good (turned k side addr port)=0/\k.ttl≠1/\(side=0\/side=1):=by
 have hk:qam (frame k)=k:=ql1 k hg _ _
 unfold qc5
 rw[if_pos h,hk]
 unfold qcb at h
 rw[hk] at h
 have hb:=(qev k hg).1
 rw[if_neg om] at h
 by_cases h0:side≠0/\side≠1
 ·rw[if_pos h0] at h;omega
 rw[if_neg h0] at h
 by_cases ha:qeb addr=false
 ·rw[if_pos ha] at h;omega
 rw[if_neg ha] at h
 by_cases hp:qc7 port=false
 ·rw[if_pos hp] at h;omega
 rw[if_neg hp] at h
 by_cases h1:k.ttl=1
 ·rw[if_pos h1] at h;omega
 rw[if_neg h1] at h
 by_cases h2:k.proto=1/\(k.flags==8)≠(side==0)
 ·rw[if_pos h2] at h;omega
 refine m94 ?_;intro ha' hp' hs
 have hf:k.proto=1->(k.flags==8)=(side==0):=fun h3=>by
  by_cases h4:(k.flags==8)=(side==0)
  ·exact h4
  ·exact absurd ⟨h3,h4⟩ h2
 exact⟨by rw[qze k side addr port hg hs ha' hp' h1 hf],qqa k side addr port hg hs ha' hp' h1 hf,h1,hs⟩
def rp(dst id:Int):Pkt:=⟨1,167772414,0,dst,0,64,id,0,0,0,0,ByteArray.empty⟩
def rfr(dst id:Int)(x:List UInt8)(c1 c2:Int):List UInt8:=hd (rp dst id) 56 c1++([3,13]++w16 c2++[0,0,0,0]++x)
def quc(dst id:Int):Int:=65535-bk (tot (hd (rp dst id) 56 0))
def qkv(x:List UInt8):Int:=65535-bk (tot ([3,13]++w16 0++[0,0,0,0]++x))
def qff(dst id:Int)(x:List UInt8):List UInt8:=rfr dst id x (quc dst id) (qkv x)
theorem q1c(dst id:Int)(x:List UInt8):q0r (rfr dst id x 0 0)=rfr dst id x (quc dst id) 0:=rfl
theorem q2x(dst id:Int)(x:List UInt8)(c1:Int):qgf (rfr dst id x c1 0) 1=rfr dst id x c1 (qkv x):=by
 unfold qgf
 have e1:setW (rfr dst id x c1 0) (qbd 1) 0=rfr dst id x c1 0:=rfl;have e2:ckP (rfr dst id x c1 0) 1=qkv x:=rfl;(have e3:∀c,setW (rfr dst id x c1 0) (qbd 1) c=rfr dst id x c1 c:=fun _=>rfl);rw[e1,e2,e3];(have e4:ckQ (qkv x) 1=qkv x:=by unfold ckQ;rw[if_neg om]);rw[e4]
theorem qk9(dst id:Int)(x:List UInt8)(c1 c2:Int):(rfr dst id x c1 c2).length=28+x.length:=by
 simp[rfr];omega
def refE(l:List UInt8)(id:Int):Int:=if bad l≠0 then bad l else if qc7 id=false then 2 else 0
def refS(l:List UInt8)(id:Int):ByteArray:=if refE l id=0 then txt (qff (qam l).src id (l.take 28)) else ByteArray.empty
theorem q0j(s:ByteArray)(id:Int)(w:World)(hs:s.size<=140737488351232)(k:Pkt)(hk:qb9 s.data.toList=k)(e0:Int)(hb:bad s.data.toList=e0)(he:e0≠0):
  Calls prog 164 #[.string s,I Z id] w fun e w'=>e=.returned (.tuple #[.string ByteArray.empty,I Z e0])/\Below w.heap.size w w':=by
 (have hz:(e0==0)=false:=by simpa using he)
 go_enter func164,ntmps164
 go_wp2_with (first|(go_at_call 29;refine m3m ?_;intro w1 hb1;unfold pv)|(go_at_call 114;refine(qdz _ _).mono ?_;rintro e w' ⟨rfl,rfl⟩)|(go_at_call 122;refine m8d ?_;rintro e w' ⟨rfl,rfl⟩))
 all_goals
  go_ret2
  exact⟨rfl,hb1.alloc hb1.size _⟩
theorem qxd(s:ByteArray)(id:Int)(w:World)(hs:s.size<=140737488351232)(k:Pkt)(hk:qb9 s.data.toList=k)(hb:bad s.data.toList=0)(hid:qc7 id=false):
  Calls prog 164 #[.string s,I Z id] w fun e w'=>e=.returned (.tuple #[.string ByteArray.empty,I Z 2])/\Below w.heap.size w w':=by
 go_enter func164,ntmps164
 go_wp2_with (first|(go_at_call 29;refine m3m ?_;intro w1 hb1;unfold pv)|(go_at_call 114;refine(qdz _ _).mono ?_;rintro e w' ⟨rfl,rfl⟩)|(go_at_call 122;refine m8d ?_;rintro e w' ⟨rfl,rfl⟩))
 all_goals
  go_ret2
  exact⟨rfl,hb1.alloc hb1.size _⟩
theorem qv7{w w1 w':World}{o1 o2 o3:Obj}{G':Option Nat}(hb:Below w.heap.size w w1)(hS:Step (w1.heap.size+1+1) none G' (((w1.alloc o1).alloc o2).alloc o3) w'):Below w.heap.size w w':=by
 have h1:=hb.size;have b1:Below w.heap.size w (((w1.alloc o1).alloc o2).alloc o3):=((hb.alloc h1 o1).alloc (by simp;omega) o2).alloc (by simp;omega) o3
 exact b1.trans (hS.below (by have:=b1.size;omega) om (fun k e=>by cases e))
theorem q2j(s:ByteArray)(id:Int)(w:World)(hs:s.size<=140737488351232)(k:Pkt)(hk:qb9 s.data.toList=k)(hb:bad s.data.toList=0)(hid:qc7 id=true)(hl:28<=s.size):
  Calls prog 164 #[.string s,I Z id] w fun e w'=>e=.returned (.tuple #[.string (txt (qff k.src id (s.data.toList.take 28))),I Z 0])/\Below w.heap.size w w':=by
 (have hx:(s.extract 0 28).data.toList=s.data.toList.take 28:=by rw[qh7];simp);(have hxs:(s.extract 0 28).size=28:=by rw[qef _ _ _ hl]);(have z1:(28:Int)<=(s.size:Int):=by omega)
 go_enter func164,ntmps164
 go_wp2_with (first|(go_at_call 29;refine m3m ?_;intro w1 hb1;unfold pv)|(go_at_call 114;refine(qdz _ _).mono ?_;rintro e w' ⟨rfl,rfl⟩)|(go_at_call 122;refine m8d ?_;rintro e w' ⟨rfl,rfl⟩))
 have h:Fr (((w1.alloc (.cells #[I Z k.proto,I Z k.src,I Z k.sport,I Z k.dst,I Z k.dport,I Z k.ttl,I Z k.id,I Z k.flags,I Z k.seq,I Z k.ack,I Z k.win,.string k.body] 61)).alloc (.cells #[I Z 1,I Z 167772414,I Z 0,I Z k.src,I Z 0,I Z 64,I Z id,I Z 0,I Z 0,I Z 0,I Z 0,.string ByteArray.empty] 61)).alloc (.cells #[.slice none 0 0] 170)) (w1.heap.size+1+1) none []:=by
  have:=qwg ((w1.alloc (.cells #[I Z k.proto,I Z k.src,I Z k.sport,I Z k.dst,I Z k.dport,I Z k.ttl,I Z k.id,I Z k.flags,I Z k.seq,I Z k.ack,I Z k.win,.string k.body] 61)).alloc (.cells #[I Z 1,I Z 167772414,I Z 0,I Z k.src,I Z 0,I Z 64,I Z id,I Z 0,I Z 0,I Z 0,I Z 0,.string ByteArray.empty] 61))
  simpa using this
 have hS:=Step.refl (w1.heap.size+1+1) none (((w1.alloc (.cells #[I Z k.proto,I Z k.src,I Z k.sport,I Z k.dst,I Z k.dport,I Z k.ttl,I Z k.id,I Z k.flags,I Z k.seq,I Z k.ack,I Z k.win,.string k.body] 61)).alloc (.cells #[I Z 1,I Z 167772414,I Z 0,I Z k.src,I Z 0,I Z 64,I Z id,I Z 0,I Z 0,I Z 0,I Z 0,.string ByteArray.empty] 61)).alloc (.cells #[.slice none 0 0] 170))
 have hI:Inv (w1.heap.size+1) (w1.heap.size+1+1) none (((w1.alloc (.cells #[I Z k.proto,I Z k.src,I Z k.sport,I Z k.dst,I Z k.dport,I Z k.ttl,I Z k.id,I Z k.flags,I Z k.seq,I Z k.ack,I Z k.win,.string k.body] 61)).alloc (.cells #[I Z 1,I Z 167772414,I Z 0,I Z k.src,I Z 0,I Z 64,I Z id,I Z 0,I Z 0,I Z 0,I Z 0,.string ByteArray.empty] 61)).alloc (.cells #[.slice none 0 0] 170)) #[I Z 1,I Z 167772414,I Z 0,I Z k.src,I Z 0,I Z 64,I Z id,I Z 0,I Z 0,I Z 0,I Z 0,.string ByteArray.empty]:=
  ⟨by simp,by omega,by simp,fun o=>by
   have:=qgz (w1.alloc (.cells #[I Z k.proto,I Z k.src,I Z k.sport,I Z k.dst,I Z k.dport,I Z k.ttl,I Z k.id,I Z k.flags,I Z k.seq,I Z k.ack,I Z k.win,.string k.body] 61)) #[I Z 1,I Z 167772414,I Z 0,I Z k.src,I Z 0,I Z 64,I Z id,I Z 0,I Z 0,I Z 0,I Z 0,.string ByteArray.empty] 61 o
   rw[show(w1.alloc (.cells #[I Z k.proto,I Z k.src,I Z k.sport,I Z k.dst,I Z k.dport,I Z k.ttl,I Z k.id,I Z k.flags,I Z k.seq,I Z k.ack,I Z k.win,.string k.body] 61)).heap.size=w1.heap.size+1 by simp] at this
   exact(World.cell?_of_block (a:=⟨w1.heap.size+1,o,none⟩) (Below.heap_alloc _ _ _ zm)).trans this⟩
 have hbox2:=hI.cell
 go_region_held3 (fun w'=>w'.cell? ⟨w1.heap.size+1,0,none⟩=some (I Z 1)/\w'.cell? ⟨w1.heap.size+1,1,none⟩=some (I Z 167772414)/\w'.cell? ⟨w1.heap.size+1,2,none⟩=some (I Z 0)/\w'.cell? ⟨w1.heap.size+1,3,none⟩=some (I Z k.src)/\w'.cell? ⟨w1.heap.size+1,4,none⟩=some (I Z 0)/\w'.cell? ⟨w1.heap.size+1,5,none⟩=some (I Z 64)/\w'.cell? ⟨w1.heap.size+1,6,none⟩=some (I Z id)/\w'.cell? ⟨w1.heap.size+1,7,none⟩=some (I Z 0)/\w'.cell? ⟨w1.heap.size+1,8,none⟩=some (I Z 0)/\w'.cell? ⟨w1.heap.size+1,9,none⟩=some (I Z 0)/\w'.cell? ⟨w1.heap.size+1,10,none⟩=some (I Z 0)/\w'.cell? ⟨w1.heap.size+1,11,none⟩=some (.string ByteArray.empty))
  (first|exact⟨hI.cell 0,hI.cell 1,hI.cell 2,hI.cell 3,hI.cell 4,hI.cell 5,hI.cell 6,hI.cell 7,hI.cell 8,hI.cell 9,hI.cell 10,hI.cell 11⟩|go_keep)
  (first|(go_at_call 80;refine m5s ?_;rintro e w' ⟨rfl,rfl⟩)|(go_at_call 115;refine(qp1 _ _ _ _ h.drew (rp k.src id) _ (by(try simp)<;>omega)).mono ?_;rintro e w' ⟨rfl,G1,h,hst⟩;replace hst:=qog hst;refine m25 ?_;clear hI hS hst;intro hI hS hbox))
 go_wp2_with (first|(go_at_call 157;(refine(qf5 _ _ _ _ (h.alloc _) _ 8 [3,13,0,0,0,0,0,0] (q4j _ _ _ rfl) (by(try simp)<;>omega)).mono ?_;rintro e w' ⟨rfl,G1,h,hst⟩;replace hst:=qfj hst;refine m25 ?_;clear hI hS hst;intro hI hS hbox))|(go_at_call 117;refine(qmm _ _ _ _ h _ (by simp<;>omega)).mono ?_;rintro e w' ⟨rfl,G1,h,hst⟩;refine m25 ?_;clear hI hS hst;intro hI hS hbox;rw[hx,List.nil_append,List.append_assoc] at h;change Fr _ _ _ (rfr k.src id (s.data.toList.take 28) 0 0) at h)|(go_at_call 118;obtain⟨g,hG,hpg,hrd⟩:=h.rd (by intro e;have:=congrArg List.length e;simp[qk9] at this);rw[hG] at hS;refine(qob _ g _ _ hrd (by rw[qk9];omega)).mono ?_;rintro e w' ⟨rfl,hrd,hst⟩;rw[hG] at hI;refine m25 ?_;clear hI hS hst;intro hI hS hbox;rw[q1c] at hrd)|(go_at_call 119;refine(qlk _ g _ _ hrd 1 (by rw[qk9];show 22+1<_;omega) (by rw[qk9];simp;omega)).mono ?_;rintro e w' ⟨rfl,hrd,hst⟩;replace hS:=hS.trans hst;clear hst;rw[q2x] at hrd)|(go_at_call 120;refine(qfw _ g _ _ hrd).mono ?_;rintro e w' ⟨rfl,rfl⟩))
 go_ret2
 exact⟨rfl,qv7 hb1 hS⟩
def sumT(s:ByteArray):Int:=bk (tot s.data.toList)
theorem qtk(s:ByteArray)(w:World)(hs:s.size<=562949953421312):Calls prog 48 #[.string s] w fun e w'=>e=.returned (I Z (sumT s))/\w'=w:=qqw s w hs
theorem qzs(s:ByteArray)(id:Int)(w:World)(hs:s.size<=140737488351232):
  Calls prog 164 #[.string s,I Z id] w fun e w'=>e=.returned (.tuple #[.string (refS s.data.toList id),I Z (refE s.data.toList id)])/\Below w.heap.size w w':=by
 unfold refS
 by_cases hb:bad s.data.toList=0
 ·(have hk:qb9 s.data.toList=qam s.data.toList:=by unfold qb9;rw[if_pos hb])
  by_cases hi:qc7 id=false
  ·(have e:refE s.data.toList id=2:=by unfold refE;rw[if_neg om,if_pos hi])
   rw[e];exact qxd s id w hs _ rfl hb hi
  (have e:refE s.data.toList id=0:=by unfold refE;rw[if_neg om,if_neg hi]);rw[e,if_pos rfl]
  obtain⟨H,P,_⟩:=qgi _ hb
  have hpl:=qge _ H.kind;have hln:=P.len;have hll:=qb6 s
  exact q2j s id w hs _ hk hb (by simpa using hi) om
 ·(have e:refE s.data.toList id=bad s.data.toList:=by unfold refE;rw[if_pos hb])
  rw[e,if_neg hb];exact q0j s id w hs _ rfl _ rfl hb
theorem sZti35(h:p:=by
 rw[List.append_assoc,List.append_assoc,qa8 _ _ zm,qa8 _ (w16 c) zm]):p:=h
theorem q1p(p:Pkt)(n c:Int)(h0:0<=c)(h1:c<=65535):tot (hd p n c)=tot (hd p n 0)+c:=by
 have e:∀c,tot (hd p n c)=tot ([69,0]++w16 n++w16 p.id++w16 0++[b8 p.ttl,b8 p.proto])+(tot (w16 c)+tot (l32 p.src++l32 p.dst)):=fun c=>by
  unfold hd
  exact sZti35
 rw[e c,e 0,qe2,qe2];omega
theorem qv9(dst id:Int):bk (tot (hd (rp dst id) 56 (quc dst id)))=65535:=by
 have h:=qhn (tot (hd (rp dst id) 56 0))
 unfold quc
 rw[q1p _ _ _ om om]
 exact qpg _ (qgj _)
theorem qve(x:List UInt8):bk (tot ([3,13]++w16 (qkv x)++[0,0,0,0]++x))=65535:=by
 have e:∀c,tot ([3,13]++w16 c++[0,0,0,0]++x)=tot [3,13]+(tot (w16 c)+tot ([0,0,0,0]++x)):=fun c=>by
  exact sZti35
 have h:=qhn (tot ([3,13]++w16 0++[0,0,0,0]++x))
 have g:tot ([3,13]++w16 (qkv x)++[0,0,0,0]++x)=tot ([3,13]++w16 0++[0,0,0,0]++x)+qkv x:=by
  rw[e,e,qe2,qe2]
  unfold qkv;omega
 rw[g]
 exact qpg _ (qgj _)
end
end Go.Proofs.YtonnjgmognbnbaaGreatDoor
