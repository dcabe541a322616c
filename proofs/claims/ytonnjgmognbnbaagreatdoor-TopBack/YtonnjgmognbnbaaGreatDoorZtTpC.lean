/-
  Whoever is sent to may answer, plainly.
-/
import Derived.Test.YtonnjgmognbnbaaGreatDoorZtTpR
namespace Go.Proofs.YtonnjgmognbnbaaGreatDoor
open Go.ChangeShapes Go.WideShapes Go.ChangeAt Go.RowKit
set_option linter.unusedSimpArgs false
set_option linter.unusedVariables false
variable {f h:Nat->Int}{g:Nat->Bool}{s:Nt}{ms:List Mp}{d dst p:Int}{l:List UInt8}
/-- why a block isn't taken. -/
theorem takeE_codes{s a:Int}(hg:qcv f=true)(ha:0<=a/\a<3)(hs:0<=s/\s<8):qdh f g s a=0\/qdh f g s a=9\/qdh f g s a=10:=by
 unfold qdh
 rw[if_pos hg,if_pos ⟨decide_eq_true ha,decide_eq_true hs⟩]
 split
 ·exact .inr (.inl rfl)
 ·split
  ·exact .inr (.inr rfl)
  ·exact .inl rfl
theorem openC_lt(f:Nat->Int)(g:Nat->Bool)(a:Nat)(h:a∈qi5 f g):a<3:=by
 (have h2:a<3/\g a=false/\0<(qbo (rowF f a)).length:=by simpa[qi5,qcp] using h)
 exact h2.1
theorem room_codes{s:Int}(G:qbq f h ms)(hs:0<=s/\s<8):(qbe f g h ms p s d).e=0\/(qbe f g h ms p s d).e=6\/(qbe f g h ms p s d).e=9\/(qbe f g h ms p s d).e=10:=by
 cases hu:qcy ms p (qbk f s) with
 | some x=>rw[qq1 hu];exact .inl rfl
 | none=>
  by_cases h1:(qbk f s).length=2
  ·rw[qq6 hu h1];exact .inr (.inl rfl)
  by_cases h2:qgv f g h s=0
  ·by_cases h3:qdh f g s (qdn f g h s d)=0
   ·rw[quo hu h1 h2 h3];exact .inl rfl
   ·rw[qq2 hu h1 h2 h3]
    have ha:0<=qdn f g h s d/\qdn f g h s d<3:=by
     unfold qdn
     unfold qgv at h2
     by_cases h0:h s.toNat=0
     ·rw[if_pos h0] at h2 ⊢
      unfold qk1 at h2
      rw[if_pos G.pool] at h2
      unfold qkr
      rw[if_pos G.pool]
      by_cases hl:(qi5 f g).length=0
      ·rw[if_pos hl] at h2;exact absurd h2 (by omega)
      ·rw[if_neg hl]
       have:=openC_lt f g _ (qiu (qi5 f g) d (by omega))
       omega
     ·rw[if_neg h0]
      have:=G.homeIn hs
      omega
    rcases takeE_codes (g:=g) G.pool ha hs with h4|h4
    ·exact absurd h4 h3
    ·exact .inr (.inr h4)
  ·rw[qrd hu h1 h2]
   unfold qgv at h2 ⊢
   by_cases h0:h s.toNat=0
   ·rw[if_pos h0] at h2 ⊢
    unfold qk1 at h2 ⊢
    rw[if_pos G.pool] at h2 ⊢
    by_cases hl:(qi5 f g).length=0
    ·rw[if_pos hl];exact .inr (.inr (.inr rfl))
    ·rw[if_neg hl] at h2;exact absurd rfl h2
   ·rw[if_neg h0] at h2;exact absurd rfl h2
theorem openN_codes{s i:Int}(hP:qjy f h ms p s i)(he:(qba f g h ms p s i d).e≠0):
  (qba f g h ms p s i d).e=6\/(ms.find? (inS p s i)=none/\((qba f g h ms p s i d).e=9\/(qba f g h ms p s i d).e=10)):=by
 unfold qba at he ⊢
 rw[if_pos hP] at he ⊢
 cases hf:ms.find? (inS p s i) with
 | some m=>rw[hf] at he;exact absurd rfl he
 | none=>
  rw[hf] at he
  simp only at he ⊢
  by_cases hc:cntM ms s=12
  ·rw[if_pos hc];exact .inl rfl
  rw[if_neg hc] at he ⊢
  have hr:=room_codes (f:=f) (g:=g) (h:=h) (ms:=ms) (p:=p) (d:=d) hP.1 hP.2.2.1
  by_cases h0:(qbe f g h ms p s d).e≠0
  ·rw[if_pos h0]
   rcases hr with h1|h1|h1
   ·exact absurd h1 h0
   ·exact .inl h1
   ·exact .inr ⟨trivial,h1⟩
  ·rw[if_neg h0] at he;exact absurd rfl he
/-- what comes of a packet of udp that goes out. -/
structure Gone(s:Nt)(p:Pkt)(r:Rp×Nt)(m:Mp)(n:Nat)(k:Fl):Prop where
 code:r.1.code=0
 inn:r.1.inn=false
 fr:r.1.fr=txt (frame (turned p 0 (3405803777+m.2.2.2.1) m.2.2.2.2))
 good:good (turned p 0 (3405803777+m.2.2.2.1) m.2.2.2.2)=0
 mem:m∈r.2.ms
 pr:m.1=17
 sub:m.2.1=p.src-167772161
 port:m.2.2.1=p.sport
 a:0<=m.2.2.2.1/\m.2.2.2.1<3
 q:1024<=m.2.2.2.2/\m.2.2.2.2<1072
 fl:(n,k)∈r.2.fs
 map:flM k=m
 rem:k.rem=p.dst
 rp:k.rp=p.dport
 kept:∀o∈s.ms,o∈r.2.ms
theorem out_udp(h:Ci s){p:Pkt}(hb:bad l=0)(hP:qam l=p)(h17:p.proto=17)(ht:p.ttl=9)(hs:0<=p.src-167772161/\p.src-167772161<8)(hd:¬(0<=p.dst-3405803777/\p.dst-3405803777<3))(hq:0<=p.sport/\p.sport<=65535)(draw:Int):
  ((s.out l draw).1.code=6\/(s.ms.find? (inS 17 (p.src-167772161) p.sport)=none/\((s.out l draw).1.code=9\/(s.out l draw).1.code=10)))\/∃m n k,Gone s p (s.out l draw) m n k:=by
 subst hP
 (have hp:¬((qam l).proto==1&&(qam l).flags != 8)=true:=by rw[h17];simp);(have ht1:(qam l).ttl≠1:=by omega)
 unfold Nt.out
 rw[if_neg (fun hh=>hh hb),if_neg (fun hh=>hh hs),if_neg hp,if_neg ht1]
 cases hf:s.find (outF (qam l) ((qam l).src-167772161)) with
 | some x=>
  simp only
  right
  have hx:=qjj hf;have ho:=hx.2
  unfold outF at ho
  simp only[Bool.and_eq_true,beq_iff_eq] at ho
  obtain⟨⟨⟨⟨o1,o2⟩,o3⟩,o4⟩,o5⟩:=ho;have hn:=qnr x.2 (qam l).flags s.now false;have C:=h.keep hx.1 hn (qod (h.due x hx.1))
  generalize qcu x.2 (qam l).flags false s.now=k at *
  have hM:flM k=flM x.2:=hn.1;have e1:k.pr=x.2.pr:=congrArg (·.1) hM;have e2:k.s=x.2.s:=congrArg (·.2.1) hM;have e3:k.i=x.2.i:=congrArg (·.2.2.1) hM;(have hm:flM k∈(s.keep x.1 k).ms:=by rw[hM];exact h.mem x hx.1);have er:k.rem=(qam l).dst:=hn.2.1.trans o4;obtain⟨hl,hg⟩:=qtr C hm hb hp ht1 (by rw[er];exact hd)
  obtain⟨_,_,_,q4,q5,_⟩:=C.good.maps.1 _ hm
  rw[hl]
  exact⟨flM k,x.1,k,rfl,rfl,rfl,hg,hm,(e1.trans o1).trans h17,e2.trans o2,e3.trans o3,q5,q4,qvd hx.1 k,rfl,er,hn.2.2.trans o5,fun o ho=>ho⟩
 | none=>
  simp only
  (have hbg:¬begB (qam l)=false:=by unfold begB;rw[h17];simp);rw[if_neg hbg]
  unfold Nt.first
  by_cases hfull:s.full=true
  ·rw[if_pos hfull]
   exact .inl (.inl (qpr s l 6).1)
  rw[if_neg hfull];(have hlen:s.fs.length<48:=by unfold Nt.full at hfull;simpa using hfull)
  simp only
  (have hoP:qjy s.f s.h s.ms (qam l).proto ((qam l).src-167772161) (qam l).sport:=⟨h.good,by rw[h17];decide,hs,hq⟩)
  by_cases he:(qba s.f s.g s.h s.ms (qam l).proto ((qam l).src-167772161) (qam l).sport draw).e≠0
  ·rw[if_pos he];have hc:=(qpr s l (qba s.f s.g s.h s.ms (qam l).proto ((qam l).src-167772161) (qam l).sport draw).e).1;rw[hc]
   have:=openN_codes hoP he
   rw[h17] at this ⊢
   exact .inl this
  rw[if_neg he]
  right
  (have he0:(qba s.f s.g s.h s.ms (qam l).proto ((qam l).src-167772161) (qam l).sport draw).e=0:=by omega);have C:=q1q h (qsg hb).2 hf hlen he0;obtain⟨G,hm,hsub⟩:=qk3 he0;obtain⟨m1,m2,m3,hn⟩:=qsb he0
  generalize qba s.f s.g s.h s.ms (qam l).proto ((qam l).src - 167772161) (qam l).sport draw=o at *
  obtain⟨_,_,_,q4,q5,_⟩:=G.maps.1 _ hm
  obtain⟨hl,hg⟩:=qtr (k:=mkF o.m (qam l).dst (qam l).dport (qao (qam l).proto)) C (by rw[qjg];exact hm) hb hp ht1 hd;rw[hl];have hfl:(s.began+1,dueF (s.setT o.f o.h o.ms) (mkF o.m (qam l).dst (qam l).dport (qao (qam l).proto)))∈((s.setT o.f o.h o.ms).begin (mkF o.m (qam l).dst (qam l).dport (qao (qam l).proto))).fs:=List.mem_append.2 (.inr (List.mem_singleton.2 rfl))
  refine⟨o.m,s.began+1,dueF (s.setT o.f o.h o.ms) (mkF o.m (qam l).dst (qam l).dport (qao (qam l).proto)),?_⟩
  generalize hB:(s.setT o.f o.h o.ms).begin (mkF o.m (qam l).dst (qam l).dport (qao (qam l).proto))=B at *
  (have hBm:B.ms=o.ms:=by rw[←hB];rfl)
  have fin:∀r:Rp×Nt,r.1.code=0->r.1.inn=false->r.1.fr=txt (frame (turned (qam l) 0 (3405803777+(mkF o.m (qam l).dst (qam l).dport (qao (qam l).proto)).a) (mkF o.m (qam l).dst (qam l).dport (qao (qam l).proto)).port))->Same B r.2->Gone s (qam l) r o.m (s.began+1) (dueF (s.setT o.f o.h o.ms) (mkF o.m (qam l).dst (qam l).dport (qao (qam l).proto))):=fun r c1 c2 c3 c4=>
   ⟨c1,c2,c3,hg,by rw[c4.ms,hBm];exact hm,m1.trans h17,m2,m3,q5,q4,by rw[c4.fs];exact hfl,qjg o.m (qam l).dst (qam l).dport (qao (qam l).proto),rfl,rfl,fun x hx=>by rw[c4.ms,hBm];exact hsub x hx⟩
  split
  ·exact fin _ rfl rfl rfl (q5a _ _)
  ·exact fin _ rfl rfl rfl (Same.refl _)
/-- the answer. -/
theorem inn_udp{t:Nt}(h:Ci t){q:Pkt}(hb:bad l=0)(hQ:qam l=q)(h17:q.proto=17)(ht:q.ttl=9){n:Nat}{k:Fl}(hk:(n,k)∈t.fs)(hd:q.dst=3405803777+k.a)(hp:q.dport=k.port)(hr:q.src=k.rem)(hq:q.sport=k.rp)(k17:k.pr=17):
  (t.inn l).1=⟨0,txt (frame (turned q 1 (167772161+k.s) k.i)),true,ByteArray.empty⟩/\good (turned q 1 (167772161+k.s) k.i)=0/\(t.inn l).2.ms=t.ms:=by
 subst hQ
 have hm:=h.mem _ hk
 obtain⟨_,q2,q3,q4,q5,_⟩:=h.good.maps.1 _ hm
 have q5':0<=k.a/\k.a<3:=q5;(have hpp:¬((qam l).proto==1&&(qam l).flags != 0)=true:=by rw[h17];simp);(have ht1:(qam l).ttl≠1:=by omega);(have hin:¬ ¬(0<=(qam l).dst-3405803777/\(qam l).dst-3405803777<3):=by rw[hd];omega)
 have hf:t.ms.find? (outS (qam l).proto ((qam l).dst-3405803777) (qam l).dport)=some (flM k):=by
  have:=qbeb h.good.maps.2 hm
  (have e1:(qam l).dst-3405803777=(flM k).2.2.2.1:=by rw[hd];show 3405803777+k.a-3405803777=k.a;omega);rw[h17,e1,hp,←k17]
  exact this
 have hme:∃x,t.find (qio (qam l) (flM k))=some x:=by
  cases hc:t.find (qio (qam l) (flM k)) with
  | some x=>exact⟨x,rfl⟩
  | none=>
   have:=qqq hc _ hk
   unfold qio qey at this
   rw[hr,hq] at this
   simp at this
 obtain⟨x,hx⟩:=hme;(have e0:(t.letIn (qam l) (flM k)).1=0:=by unfold Nt.letIn;rw[hx]);have hE:qcb l 1 (167772161+k.s) k.i=0:=q5l hb hpp ht1 q2 q3
 obtain⟨_,eS,hg,_⟩:=qnc l 1 _ _ hE
 refine⟨?_,hg,?_⟩
 ·unfold Nt.inn
  rw[if_neg (fun hh=>hh hb),if_neg hin,if_neg hpp,if_neg ht1,hf]
  simp only
  rw[if_neg (fun hh=>hh e0)]
  show(⟨qcb l 1 (167772161+k.s) k.i,qc5 l 1 (167772161+k.s) k.i,true,ByteArray.empty⟩:Rp)=_
  rw[hE,eS]
 ·unfold Nt.inn
  rw[if_neg (fun hh=>hh hb),if_neg hin,if_neg hpp,if_neg ht1,hf]
  simp only
  rw[if_neg (fun hh=>hh e0)]
  exact(qw5 t (qam l) (flM k)).2.2.2.1
/-- a packet of udp. -/
def pU(from_ sport dst dport:Int)(b:ByteArray):Pkt:=⟨17,from_,sport,dst,dport,9,0,0,0,0,0,b⟩
theorem pU_good{from_ sport dport:Int}{b:ByteArray}(h1:0<=from_/\from_<=4294967295)(h2:0<=sport/\sport<=65535)(h3:0<=dst/\dst<=4294967295)(h4:0<=dport/\dport<=65535)(hs:b.size<=64):good (pU from_ sport dst dport b)=0:=by
 (have h1:qdc (pU from_ sport dst dport b).proto=true:=by show qdc 17=true;decide);have h2:qht (pU from_ sport dst dport b)=true:=(qdu _).2 (by simp only[pU];omega);(have h3:¬64<(pU from_ sport dst dport b).body.size:=by show ¬(64<b.size);omega);(have h4:qiz (pU from_ sport dst dport b)=true:=(qjo _).2 ⟨fun h=>absurd h (by simp[pU]),fun _=>by simp[pU]⟩)
 unfold good
 rw[if_neg (by rw[h1];simp),if_neg (by rw[h2];simp),if_neg h3,if_neg (by rw[h4];simp)]
theorem act_kd1(hk:s.acts<300)(n dr:Int)(l:List UInt8):s.act ⟨1,n,dr,txt l⟩=Nt.out { s with acts:=s.acts+1 } l dr:=by
 unfold Nt.act
 rw[if_neg (by omega)]
 dsimp only
 rw[if_pos rfl,qds]
theorem act_kd2(hk:s.acts<300)(n dr:Int)(l:List UInt8):s.act ⟨2,n,dr,txt l⟩=Nt.inn { s with acts:=s.acts+1 } l:=by
 unfold Nt.act
 rw[if_neg (by omega)]
 dsimp only
 rw[if_neg (by decide),if_pos rfl,qds]
def bThere:ByteArray:=⟨#[116,104,101,114,101]⟩
def bBack:ByteArray:=⟨#[98,97,99,107]⟩
/-- the qclb acts: what is sent; what comes back; what is sent to somebody else. -/
def bk1(sub port dst rport draw:Int):Ac:=⟨1,0,draw,txt (frame (pU (167772161+sub) port dst rport bThere))⟩
def bk2(dst rport a q:Int):Ac:=⟨2,0,0,txt (frame (pU dst rport (3405803777+a) q bBack))⟩
def bk3(sub port dst:Int):Ac:=⟨1,0,0,txt (frame (pU (167772161+sub) port ((dst+1)%16777216) 7 bThere))⟩
theorem back_pure{j:Nat}(h:NInv s j)(hj:j<290){sub port rport draw:Int}(hs:0<=sub/\sub<8)(hp:0<=port/\port<=65535)(ht:0<=dst/\dst<16777216)(hr:0<=rport/\rport<=65535):
  (((s.act (bk1 sub port dst rport draw)).1.code=6\/(s.act (bk1 sub port dst rport draw)).1.code=9\/(s.act (bk1 sub port dst rport draw)).1.code=10))\/
  ∃a q:Int,(0<=a/\a<3)/\(1024<=q/\q<1072)/\(s.act (bk1 sub port dst rport draw)).1.code=0/\(s.act (bk1 sub port dst rport draw)).1.fr=txt (frame (turned (pU (167772161+sub) port dst rport bThere) 0 (3405803777+a) q))/\good (turned (pU (167772161+sub) port dst rport bThere) 0 (3405803777+a) q)=0/\
   ((s.act (bk1 sub port dst rport draw)).2.act (bk2 dst rport a q)).1=⟨0,txt (frame (turned (pU dst rport (3405803777+a) q bBack) 1 (167772161+sub) port)),true,ByteArray.empty⟩/\good (turned (pU dst rport (3405803777+a) q bBack) 1 (167772161+sub) port)=0/\
   ((((s.act (bk1 sub port dst rport draw)).2.act (bk2 dst rport a q)).2.act (bk3 sub port dst)).1.code=6\/
    ((((s.act (bk1 sub port dst rport draw)).2.act (bk2 dst rport a q)).2.act (bk3 sub port dst)).1.code=0/\(((s.act (bk1 sub port dst rport draw)).2.act (bk2 dst rport a q)).2.act (bk3 sub port dst)).1.fr=txt (frame (turned (pU (167772161+sub) port ((dst+1)%16777216) 7 bThere) 0 (3405803777+a) q))/\
     good (turned (pU (167772161+sub) port ((dst+1)%16777216) 7 bThere) 0 (3405803777+a) q)=0)):=by
 (have hT:bThere.size<=64:=by decide);(have hK:bBack.size<=64:=by decide);have g1:=pU_good (b:=bThere) (from_:=167772161+sub) (sport:=port) (dst:=dst) (dport:=rport) (by omega) hp (by omega) hr hT
 obtain⟨b1,_⟩:=qev _ g1
 have P1:qam (frame (pU (167772161+sub) port dst rport bThere))=_:=ql1 _ g1 _ _;have h1:=h.act (by omega) (bk1 sub port dst rport draw);have eA:s.act (bk1 sub port dst rport draw)=_:=act_kd1 (by rw[h.acts];omega) _ _ _;(have hsub:(pU (167772161+sub) port dst rport bThere).src-167772161=sub:=by show 167772161+sub-167772161=sub;omega);(have O1:=out_udp (h.ci.acts (s.acts+1)) b1 P1 rfl rfl (by rw[hsub];exact hs) (by show ¬(0<=dst-3405803777/\dst-3405803777<3);omega) hp draw)
 rw[←eA] at O1
 generalize s.act (bk1 sub port dst rport draw)=r1 at *
 rcases O1 with O1|⟨m,n,k,O1⟩
 ·left
  rcases O1 with O1|⟨_,O1⟩
  ·exact .inl O1
  ·exact .inr O1
 right
 (have ek:k.s=sub:=by have:=O1.sub;rw[hsub,←O1.map] at this;exact this);(have ei:k.i=port:=by have:=O1.port;rw[←O1.map] at this;exact this);(have ep:k.pr=17:=by have:=O1.pr;rw[←O1.map] at this;exact this);(have ea:k.a=m.2.2.2.1:=by rw[←O1.map];rfl);(have eq:k.port=m.2.2.2.2:=by rw[←O1.map];rfl)
 refine⟨m.2.2.2.1,m.2.2.2.2,O1.a,O1.q,O1.code,O1.fr,O1.good,?_⟩
 have g2:=pU_good (b:=bBack) (from_:=dst) (sport:=rport) (dst:=3405803777+m.2.2.2.1) (dport:=m.2.2.2.2) (by omega) hr (by have:=O1.a;omega) (by have:=O1.q;omega) hK
 obtain⟨b2,_⟩:=qev _ g2
 have P2:qam (frame (pU dst rport (3405803777+m.2.2.2.1) m.2.2.2.2 bBack))=_:=ql1 _ g2 _ _;have h2:=h1.act (by omega) (bk2 dst rport m.2.2.2.1 m.2.2.2.2);have eB:r1.2.act (bk2 dst rport m.2.2.2.1 m.2.2.2.2)=_:=act_kd2 (by rw[h1.acts];omega) _ _ _;have O2:=inn_udp (h1.ci.acts (r1.2.acts+1)) b2 P2 rfl rfl (n:=n) (k:=k) O1.fl (by rw[ea];rfl) (by rw[eq];rfl) O1.rem.symm O1.rp.symm ep
 rw[←eB,ek,ei] at O2
 generalize r1.2.act (bk2 dst rport m.2.2.2.1 m.2.2.2.2)=r2 at *
 refine⟨O2.1,O2.2.1,?_⟩
 have hms:r2.2.ms=r1.2.ms:=O2.2.2;have g3:=pU_good (b:=bThere) (from_:=167772161+sub) (sport:=port) (dst:=(dst+1)%16777216) (dport:=7) (by omega) hp (by omega) (by omega) hT
 obtain⟨b3,_⟩:=qev _ g3
 have P3:qam (frame (pU (167772161+sub) port ((dst+1)%16777216) 7 bThere))=_:=ql1 _ g3 _ _;have h3:=h2.act (by omega) (bk3 sub port dst);have eC:r2.2.act (bk3 sub port dst)=_:=act_kd1 (by rw[h2.acts];omega) _ _ _;(have hsub3:(pU (167772161+sub) port ((dst+1)%16777216) 7 bThere).src-167772161=sub:=by show 167772161+sub-167772161=sub;omega);(have O3:=out_udp (h2.ci.acts (r2.2.acts+1)) b3 P3 rfl rfl (by rw[hsub3];exact hs) (by show ¬(0<=(dst+1)%16777216-3405803777/\(dst+1)%16777216-3405803777<3);omega) hp 0)
 rw[←eC] at O3
 generalize r2.2.act (bk3 sub port dst)=r3 at *
 (have hmem:m∈r2.2.ms:=by rw[hms];exact O1.mem)
 rcases O3 with O3|⟨m3,n3,k3,O3⟩
 ·rcases O3 with O3|⟨O3,_⟩
  ·exact .inl O3
  ·exfalso
   have:=List.find?_eq_none.1 O3 m hmem
   exact this ((qsm _ _ _ _).2 ⟨O1.pr,by rw[hsub3,O1.sub,hsub],O1.port⟩)
 ·right
  have f1:=q35 h3.ci.good.maps.2 O3.mem;have f2:=q35 h3.ci.good.maps.2 (O3.kept m hmem);have c1:m3.1=m.1:=O3.pr.trans O1.pr.symm;(have c2:m3.2.1=m.2.1:=by rw[O3.sub,hsub3,O1.sub,hsub]);have c3:m3.2.2.1=m.2.2.1:=O3.port.trans O1.port.symm
  rw[c1,c2,c3,f2] at f1
  have e:=Option.some.inj f1
  subst e
  exact⟨O3.code,O3.fr,O3.good⟩
end Go.Proofs.YtonnjgmognbnbaaGreatDoor
