/-
  Of what a law stands on.
-/
import Derived.Test.YtonnjgmognbnbaaGreatDoorZtTpA
set_option linter.unusedSimpArgs false
set_option linter.unusedVariables false
namespace Go.Proofs.YtonnjgmognbnbaaGreatDoor
open _root_.Go.Proofs.Tryz Go.ChangeShapes Go.WideShapes Go.ChangeAt Go.RowKit
set_option maxHeartbeats 16000000
set_option maxRecDepth 100000
variable {s:Nt}{p:Pkt}{l:List UInt8}{a q:Int}{k:Fl}
structure Same(s t:Nt):Prop where
 f:t.f=s.f
 g:t.g=s.g
 h:t.h=s.h
 ms:t.ms=s.ms
 fs:t.fs=s.fs
 now:t.now=s.now
theorem Same.refl(s:Nt):Same s s:=⟨rfl,rfl,rfl,rfl,rfl,rfl⟩
theorem Same.trans{t u:Nt}(h:Same s t)(k:Same t u):Same s u:=⟨k.f.trans h.f,k.g.trans h.g,k.h.trans h.h,k.ms.trans h.ms,k.fs.trans h.fs,k.now.trans h.now⟩
theorem sZtTpB1{p:Prop}(h:p:=by
 (have h2:qc7 q=true:=by unfold qc7;rw[decide_eq_true_eq];omega)
 unfold qcb
 rw[if_neg om,if_neg om,if_neg (by rw[h1];simp),if_neg (by rw[h2];simp),if_neg ht,if_neg]
 rintro⟨h3,h4⟩
 apply h4
 rw[h3] at hp
 simp at hp
 rw[hp];rfl):p:=h
theorem q5h(hb:bad l=0)(hp:¬((qam l).proto==1&&(qam l).flags != 8)=true)(ht:(qam l).ttl≠1)(ha:0<=a/\a<3)(hq:0<=q/\q<=65535):qcb l 0 (3405803777+a) q=0:=by
 (have h1:qeb (3405803777+a)=true:=by unfold qeb;rw[decide_eq_true_eq];omega)
 exact sZtTpB1
theorem q5l(hb:bad l=0)(hp:¬((qam l).proto==1&&(qam l).flags != 0)=true)(ht:(qam l).ttl≠1)(ha:0<=a/\a<8)(hq:0<=q/\q<=65535):qcb l 1 (167772161+a) q=0:=by
 (have h1:qeb (167772161+a)=true:=by unfold qeb;rw[decide_eq_true_eq];omega)
 exact sZtTpB1
theorem qw5(s:Nt)(p:Pkt)(m:Mp):(s.letIn p m).2.f=s.f/\(s.letIn p m).2.g=s.g/\(s.letIn p m).2.h=s.h/\(s.letIn p m).2.ms=s.ms/\(s.letIn p m).2.now=s.now:=by
 unfold Nt.letIn
 split
 ·exact⟨rfl,rfl,rfl,rfl,rfl⟩
 ·split
  ·exact⟨rfl,rfl,rfl,rfl,rfl⟩
  ·split<;>exact⟨rfl,rfl,rfl,rfl,rfl⟩
theorem q1z{m:Mp}(h:(s.letIn p m).1≠0):(s.letIn p m).2=s:=by
 unfold Nt.letIn at h ⊢
 split
 ·next x hx=>rw[hx] at h;exact absurd rfl h
 ·next hx=>
  rw[hx] at h
  simp only at h
  split
  ·rfl
  ·next h1=>
   rw[if_neg h1] at h
   split
   ·rfl
   ·next h2=>rw[if_neg h2] at h;exact absurd rfl h
theorem qoj(h:Ci s)(l:List UInt8):(∃e,e≠0/\s.inn l=(qas e,s))\/
  ∃m,m∈s.ms/\s.ms.find? (outS (qam l).proto ((qam l).dst-3405803777) (qam l).dport)=some m/\bad l=0/\(0<=(qam l).dst-3405803777/\(qam l).dst-3405803777<3)/\(s.letIn (qam l) m).1=0/\good (turned (qam l) 1 (167772161+m.2.1) m.2.2.1)=0/\
   s.inn l=(⟨0,txt (frame (turned (qam l) 1 (167772161+m.2.1) m.2.2.1)),true,ByteArray.empty⟩,(s.letIn (qam l) m).2):=by
 unfold Nt.inn
 by_cases hb:bad l≠0
 ·rw[if_pos hb];exact .inl ⟨_,hb,rfl⟩
 rw[if_neg hb];(have hb0:bad l=0:=by omega)
 by_cases hd:¬(0<=(qam l).dst-3405803777/\(qam l).dst-3405803777<3)
 ·rw[if_pos hd];exact .inl ⟨7,by omega,rfl⟩
 rw[if_neg hd]
 by_cases hp:((qam l).proto==1&&(qam l).flags != 0)=true
 ·rw[if_pos hp];exact .inl ⟨4,by omega,rfl⟩
 rw[if_neg hp]
 by_cases ht:(qam l).ttl=1
 ·rw[if_pos ht];exact .inl ⟨12,by omega,rfl⟩
 rw[if_neg ht]
 cases hf:s.ms.find? (outS (qam l).proto ((qam l).dst-3405803777) (qam l).dport) with
 | none=>exact .inl ⟨7,by omega,rfl⟩
 | some m=>
  have hm:=List.mem_of_find?_eq_some hf
  obtain⟨_,h2,h3,_⟩:=h.good.maps.1 m hm
  simp only
  by_cases hl:(s.letIn (qam l) m).1≠0
  ·rw[if_pos hl,q1z hl];exact .inl ⟨_,hl,rfl⟩
  ·rw[if_neg hl];have hE:=q5l hb0 hp ht h2 h3
   obtain⟨_,e,hg,_⟩:=qnc l 1 _ _ hE
   refine .inr ⟨m,hm,rfl,hb0,by omega,by omega,hg,?_⟩
   rw[hE,e]
theorem qtr(h:Ci s)(hm:flM k∈s.ms)(hb:bad l=0)(hp:¬((qam l).proto==1&&(qam l).flags != 8)=true)(ht:(qam l).ttl≠1)(hi:¬(0<=k.rem-3405803777/\k.rem-3405803777<3)):
  s.leave l k=(⟨0,txt (frame (turned (qam l) 0 (3405803777+k.a) k.port)),false,ByteArray.empty⟩,s)/\good (turned (qam l) 0 (3405803777+k.a) k.port)=0:=by
 obtain⟨_,_,_,h4,h5,_⟩:=h.good.maps.1 _ hm
 have h4':1024<=k.port/\k.port<1072:=h4;have h5':0<=k.a/\k.a<3:=h5;have hE:=q5h (q:=k.port) hb hp ht h5' om
 obtain⟨_,e,hg,_⟩:=qnc l 0 _ _ hE
 unfold Nt.leave
 rw[if_neg hi,hE,e]
 exact⟨rfl,hg⟩
theorem qur(hi:0<=k.rem-3405803777/\k.rem-3405803777<3):s.leave l k=s.inn (qc5 l 0 (3405803777+k.a) k.port).data.toList:=by
 unfold Nt.leave;rw[if_pos hi]
theorem q5a(s:Nt)(es:List Ev):Same s (s.log es).2:=by
 unfold Nt.log
 split
 ·exact Same.refl _
 ·exact⟨rfl,rfl,rfl,rfl,rfl,rfl⟩
theorem qpr(s:Nt)(l:List UInt8)(why:Int):(s.refuse l why).1.code=why/\(s.refuse l why).1.lg=ByteArray.empty/\Same s (s.refuse l why).2:=by
 unfold Nt.refuse
 split
 ·exact⟨rfl,rfl,Same.refl _⟩
 ·exact⟨rfl,rfl,⟨rfl,rfl,rfl,rfl,rfl,rfl⟩⟩
def Goes(l:List UInt8)(r:Rp×Nt):Prop:=
 bad l=0/\¬((qam l).proto==1&&(qam l).flags != 8)=true/\(qam l).ttl≠1/\(0<=(qam l).src-167772161/\(qam l).src-167772161<8)/\
  ∃t k,Ci t/\flM k∈t.ms/\k.rem=(qam l).dst/\k.rp=(qam l).dport/\k.pr=(qam l).proto/\k.s=(qam l).src-167772161/\k.i=(qam l).sport/\r.1.code=(t.leave l k).1.code/\r.1.fr=(t.leave l k).1.fr/\r.1.inn=(t.leave l k).1.inn/\Same (t.leave l k).2 r.2
theorem q1q(h:Ci s)(hp:0<=p.dst/\p.dst<=4294967295){sub:Int}(hf:s.find (outF p sub)=none)(hlen:s.fs.length<48){draw:Int}(he0:(qba s.f s.g s.h s.ms p.proto sub p.sport draw).e=0):
  Ci ((s.setT (qba s.f s.g s.h s.ms p.proto sub p.sport draw).f (qba s.f s.g s.h s.ms p.proto sub p.sport draw).h (qba s.f s.g s.h s.ms p.proto sub p.sport draw).ms).begin (mkF (qba s.f s.g s.h s.ms p.proto sub p.sport draw).m p.dst p.dport (qao p.proto))):=by
 obtain⟨G,hm,hs⟩:=qk3 he0;obtain⟨m1,m2,m3,hn⟩:=qsb he0
 generalize qba s.f s.g s.h s.ms p.proto sub p.sport draw=o at *
 refine h.add G (by rw[qjg];exact hm) hs (fun m hm'=>by rw[qjg];exact hn m hm') hlen hp (fun x hx hh=>?_)
 have:=qqq hf x hx
 rw[qjg] at hh
 refine m7y ?_;intro e1 e2 e3 e4 e5
 unfold outF at this
 rw[e1,e2,e3,e4,e5] at this
 simp at this
theorem qtv(h:Ci s)(l:List UInt8)(draw:Int):((s.out l draw).1.code≠0/\(s.out l draw).1.lg=ByteArray.empty/\Same s (s.out l draw).2)\/Goes l (s.out l draw):=by
 (have no:∀e:Int,e≠0->((qas e).code≠0/\(qas e).lg=ByteArray.empty/\Same s s):=fun e he=>⟨he,rfl,Same.refl _⟩)
 unfold Nt.out
 by_cases hb:bad l≠0
 ·rw[if_pos hb];exact .inl (no _ hb)
 rw[if_neg hb];(have hb0:bad l=0:=by omega)
 by_cases hd:¬(0<=(qam l).src-167772161/\(qam l).src-167772161<8)
 ·rw[if_pos hd];exact .inl (no 7 om)
 rw[if_neg hd]
 by_cases hp:((qam l).proto==1&&(qam l).flags != 8)=true
 ·rw[if_pos hp];exact .inl (no 4 om)
 rw[if_neg hp]
 by_cases ht:(qam l).ttl=1
 ·rw[if_pos ht];exact .inl (no 12 om)
 rw[if_neg ht]
 cases hf:s.find (outF (qam l) ((qam l).src-167772161)) with
 | some x=>
  simp only
  have hx:=qjj hf;have ho:=hx.2
  unfold outF at ho
  simp only[Bool.and_eq_true,beq_iff_eq] at ho
  obtain⟨⟨⟨⟨o1,o2⟩,o3⟩,o4⟩,o5⟩:=ho;have hn:=qnr x.2 (qam l).flags s.now false;have C:=h.keep hx.1 hn (qod (h.due x hx.1))
  generalize qcu x.2 (qam l).flags false s.now=k at *
  have hM:flM k=flM x.2:=hn.1;have e1:k.pr=x.2.pr:=congrArg (·.1) hM;have e2:k.s=x.2.s:=congrArg (·.2.1) hM;have e3:k.i=x.2.i:=congrArg (·.2.2.1) hM
  refine .inr ⟨hb0,hp,ht,by omega,_,k,C,?_,hn.2.1.trans o4,hn.2.2.trans o5,e1.trans o1,e2.trans o2,e3.trans o3,rfl,rfl,rfl,Same.refl _⟩
  rw[hM];exact h.mem x hx.1
 | none=>
  simp only
  by_cases hg:begB (qam l)=false
  ·rw[if_pos hg];exact .inl (no 11 om)
  rw[if_neg hg]
  unfold Nt.first
  by_cases hfull:s.full=true
  ·rw[if_pos hfull]
   have:=qpr s l 6
   exact .inl ⟨by rw[this.1];omega,this.2⟩
  rw[if_neg hfull];(have hlen:s.fs.length<48:=by unfold Nt.full at hfull;simpa using hfull)
  simp only
  by_cases he:(qba s.f s.g s.h s.ms (qam l).proto ((qam l).src-167772161) (qam l).sport draw).e≠0
  ·rw[if_pos he]
   have:=qpr s l (qba s.f s.g s.h s.ms (qam l).proto ((qam l).src-167772161) (qam l).sport draw).e
   exact .inl ⟨by rw[this.1];exact he,this.2⟩
  rw[if_neg he];(have he0:(qba s.f s.g s.h s.ms (qam l).proto ((qam l).src-167772161) (qam l).sport draw).e=0:=by omega);have C:=q1q h (qsg hb0).2 hf hlen he0;obtain⟨G,hm,hs⟩:=qk3 he0;obtain⟨m1,m2,m3,hn⟩:=qsb he0
  generalize qba s.f s.g s.h s.ms (qam l).proto ((qam l).src - 167772161) (qam l).sport draw=o at *
  refine .inr ⟨hb0,hp,ht,by omega,_,mkF o.m (qam l).dst (qam l).dport (qao (qam l).proto),C,?_,rfl,rfl,m1,m2,m3,?_⟩
  ·rw[qjg];exact hm
  ·split
   ·exact⟨rfl,rfl,rfl,q5a _ _⟩
   ·exact⟨rfl,rfl,rfl,Same.refl _⟩
end Go.Proofs.YtonnjgmognbnbaaGreatDoor
