/-
  Of what a law stands on.
-/
import Derived.Test.YtonnjgmognbnbaaGreatDoorZtTpR
import Derived.Test.YtonnjgmognbnbaaGreatDoorZtTpD
set_option linter.unusedSimpArgs false
set_option linter.unusedVariables false
namespace Go.Proofs.YtonnjgmognbnbaaGreatDoor
open _root_.Go.Proofs.Tryz Go.ChangeShapes Go.WideShapes Go.ChangeAt Go.RowKit
set_option maxHeartbeats 16000000
set_option maxRecDepth 100000
variable {f h:Nat->Int}{all es:List Ev}{s t:Nt}{lg:ByteArray}{L:List UInt8}
def Eq18(f f':Nat->Int):Prop:=∀i,i<18->f' i=f i
theorem Eq18.refl(f:Nat->Int):Eq18 f f:=fun _ _=>rfl
theorem Eq18.upd{f':Nat->Int}(h:Eq18 f f')(p:Nat)(x:Int):Eq18 (upd f p x) (upd f' p x):=fun i hi=>by
 show(if i=p then x else f' i)=(if i=p then x else f i)
 rw[h i hi]
theorem qdxb:∀ {f f':Nat->Int} {e:Ev},qcub f es=(0,f')->okE e->bhE (f' (at6 e)) e=0->qcub f (es++[e])=(0,upd f' (at6 e) (ownN e)):=by
 induction es with
 | nil=>
  intro f f' e h hk hE
  have:f'=f:=by have:=congrArg (·.2) h;exact this.symm
  subst this
  show qcub f' [e]=_
  unfold qcub
  rw[if_pos hk,if_pos hE]
  rfl
 | cons x r ih=>
  intro f f' e h hk hE
  show qcub f (x::(r++[e]))=_
  unfold qcub at h ⊢
  by_cases h1:okE x
  ·rw[if_pos h1] at h ⊢
   by_cases h2:bhE (f (at6 x)) x=0
   ·rw[if_pos h2] at h ⊢
    exact ih h hk hE
   ·rw[if_neg h2] at h
    exact absurd (congrArg (·.1) h) h2
  ·rw[if_neg h1] at h
   exact absurd (congrArg (·.1) h) zm
def logT(n:Nat)(es:List Ev):ByteArray:=if es.length=0 then ByteArray.empty else(if n=0 then msgT 0 0 2 (tplB 6) else ByteArray.empty)++mesT (n:Int) es
theorem qfub(s:Nt)(es:List Ev):(s.log es).1=logT s.logged es/\(s.log es).2.logged=s.logged+es.length:=by
 unfold Nt.log logT
 split
 ·next h=>exact⟨rfl,by rw[h];rfl⟩
 ·exact⟨rfl,rfl⟩
structure qdbb(s:Nt)(lg:ByteArray)(t:Nt)(es:List Ev):Prop where
 lg:lg=logT s.logged es
 logged:t.logged=s.logged+es.length
 ok:∀e∈es,okE e/\e.t=t.now
 few:es.length<=48
 own:∀f',Eq18 s.f f'->∃f'',qcub f' es=(0,f'')/\Eq18 t.f f''
 now:s.now<=t.now
theorem qczb(h1:t.logged=s.logged)(h2:t.f=s.f)(h3:s.now<=t.now):qdbb s ByteArray.empty t []:=
 ⟨rfl,h1,fun e he=>(by cases he),by simp,fun f' hf=>⟨f',rfl,by rw[h2];exact hf⟩,h3⟩
theorem qdbb.from{s':Nt}(h:qdbb s' lg t es)(h1:s'.logged=s.logged)(h2:s'.f=s.f)(h3:s.now<=s'.now):qdbb s lg t es:=
 ⟨by rw[←h1];exact h.lg,by rw[←h1];exact h.logged,h.ok,h.few,by rw[←h2];exact h.own,Int.le_trans h3 h.now⟩
theorem qgxb(f:Nat->Int)(a k:Nat):rowF f a k=f (6*a+k):=rfl
theorem qfqb{g:Nat->Bool}{ms:List Mp}{p s i d:Int}(he:(qba f g h ms p s i d).e=0):((qba f g h ms p s i d).took=false/\(qba f g h ms p s i d).f=f)\/
  ((qba f g h ms p s i d).took=true/\(qba f g h ms p s i d).f=upd f (qa7 (qba f g h ms p s i d).m) ((qba f g h ms p s i d).m.2.1+1)/\f (qa7 (qba f g h ms p s i d).m)=0):=by
 have hR:(qbe f g h ms p s d).e=0->((qbe f g h ms p s d).took=false/\(qbe f g h ms p s d).f=f)\/((qbe f g h ms p s d).took=true/\(qbe f g h ms p s d).f=upd f (qdi ((qbe f g h ms p s d).h s.toNat-1) (qbe f g h ms p s d).q) (s+1)/\f (qdi ((qbe f g h ms p s d).h s.toNat-1) (qbe f g h ms p s d).q)=0):=by
  unfold qbe
  split
  ·exact fun _=>.inl ⟨rfl,rfl⟩
  ·split
   ·exact fun _=>.inl ⟨rfl,rfl⟩
   ·split
    ·split
     ·next h0=>
      refine fun _=>.inr ⟨rfl,?_⟩
      have hE:=h0
      generalize qdn f g h s d=a at *
      (have hu:upd h s.toNat (a+1) s.toNat-1=a:=by show(if s.toNat=s.toNat then a+1 else h s.toNat)-1=a;rw[if_pos rfl];omega);(have hpl:qdi a (1024+8*(qft f g s a d:Int))=6*a.toNat+qft f g s a d:=by unfold qdi;omega)
      show qi1 f g s a d=upd f (qdi (upd h s.toNat (a+1) s.toNat-1) (1024+8*(qft f g s a d:Int))) (s+1)/\f (qdi (upd h s.toNat (a+1) s.toNat-1) (1024+8*(qft f g s a d:Int)))=0
      rw[hu,hpl]
      refine⟨by unfold qi1;rw[if_pos h0],?_⟩
      unfold qdh at hE
      by_cases h1:qcv f=true
      ·rw[if_pos h1] at hE
       by_cases h2:inR a 3=true/\inR s 8=true
       ·rw[if_pos h2] at hE
        by_cases h3:g a.toNat=true
        ·rw[if_pos h3] at hE;omega
        ·rw[if_neg h3] at hE
         by_cases h4:(qbo (rowF f a.toNat)).length=0
         ·rw[if_pos h4] at hE;omega
         have:=(qj8 _ _ (qiu (qbo (rowF f a.toNat)) d om)).2
         rw[qgxb] at this
         unfold qft;rw[if_pos h0]
         exact this
       ·rw[if_neg h2] at hE;omega
      ·rw[if_neg h1] at hE;omega
     ·exact fun _=>.inl ⟨rfl,rfl⟩
    ·exact fun _=>.inl ⟨rfl,rfl⟩
 by_cases hP:qjy f h ms p s i
 rotate_left
 ·(have ho:qba f g h ms p s i d=⟨2,f,h,ms,noM,false⟩:=by unfold qba;rw[if_neg hP])
  rw[ho] at he;simp at he
 cases hf:ms.find? (inS p s i) with
 | some m=>
  refine m8f ?_;intro ho
  exact .inl ⟨rfl,rfl⟩
 | none=>
  by_cases hc:cntM ms s=12
  ·(have ho:qba f g h ms p s i d=⟨6,f,h,ms,noM,false⟩:=by unfold qba;rw[if_pos hP,hf];simp only;rw[if_pos hc])
   rw[ho] at he;simp at he
  ·by_cases hr:(qbe f g h ms p s d).e=0
   rotate_left
   ·(have ho:qba f g h ms p s i d=⟨(qbe f g h ms p s d).e,f,h,ms,noM,false⟩:=by unfold qba;rw[if_pos hP,hf];simp only;rw[if_neg hc,if_pos hr])
    rw[ho] at he;exact absurd he hr
   ·refine m1m ?_;intro ho;rw[ho]
    exact hR hr
theorem qd7b(now:Int)(m:Mp)(b:Bool):at6 (evN now m b)=qa7 m:=rfl
theorem qglb{m:Mp}(hs:qdb f h m){now:Int}(h0:0<=now/\now<=549755813888)(b:Bool):okE (evN now m b):=by
 obtain⟨_,h2,_,h4,h5,_⟩:=hs
 unfold okE evN
 refine⟨by simp only;omega,by simp only;omega,by simp only;omega,by simp only;omega⟩
theorem qe7b(s:Nt)(p:Pkt)(m:Mp):(s.letIn p m).2.logged=s.logged/\(s.letIn p m).2.now=s.now:=by
 unfold Nt.letIn
 split
 ·exact⟨rfl,rfl⟩
 ·split
  ·exact⟨rfl,rfl⟩
  ·split<;>exact⟨rfl,rfl⟩
theorem qevb(s:Nt)(l:List UInt8):(s.inn l).1.lg=ByteArray.empty/\(s.inn l).2.logged=s.logged/\(s.inn l).2.now=s.now:=by
 unfold Nt.inn
 split
 ·exact⟨rfl,rfl,rfl⟩
 split
 ·exact⟨rfl,rfl,rfl⟩
 split
 ·exact⟨rfl,rfl,rfl⟩
 split
 ·exact⟨rfl,rfl,rfl⟩
 split
 ·exact⟨rfl,rfl,rfl⟩
 ·split<;>exact⟨rfl,qe7b _ _ _⟩
theorem qd2b(s:Nt)(l:List UInt8)(k:Fl):(s.leave l k).1.lg=ByteArray.empty/\(s.leave l k).2.logged=s.logged/\(s.leave l k).2.now=s.now:=by
 unfold Nt.leave
 split
 ·exact qevb _ _
 ·exact⟨rfl,rfl,rfl⟩
theorem qe0b(s:Nt)(l:List UInt8)(why:Int):(s.refuse l why).1.lg=ByteArray.empty/\(s.refuse l why).2.logged=s.logged/\(s.refuse l why).2.now=s.now:=by
 unfold Nt.refuse
 split<;>exact⟨rfl,rfl,rfl⟩
theorem qdpb(s:Nt)(l:List UInt8)(why:Int):∃es,qdbb s (s.refuse l why).1.lg (s.refuse l why).2 es:=by
 obtain⟨h1,h2,h3⟩:=qe0b s l why;rw[h1]
 exact⟨[],qczb h2 (qbzb _ _ _) (by rw[h3];exact Int.le_refl _)⟩
theorem qexb(s:Nt)(l:List UInt8)(k:Fl):qdbb s (s.leave l k).1.lg (s.leave l k).2 []:=by
 obtain⟨h1,h2,h3⟩:=qd2b s l k;rw[h1]
 exact qczb h2 (qb3b _ _ _) (by rw[h3];exact Int.le_refl _)
theorem qffb(s:Nt)(l:List UInt8):qdbb s (s.inn l).1.lg (s.inn l).2 []:=by
 obtain⟨h1,h2,h3⟩:=qevb s l;rw[h1]
 exact qczb h2 (qcjb _ _) (by rw[h3];exact Int.le_refl _)
theorem qeyb(h:Ci s)(l:List UInt8)(p:Pkt)(sub draw:Int):∃es,qdbb s (s.first l p sub draw).1.lg (s.first l p sub draw).2 es:=by
 unfold Nt.first
 split
 ·exact qdpb _ _ _
 ·simp only
  by_cases he:(qba s.f s.g s.h s.ms p.proto sub p.sport draw).e≠0
  ·rw[if_pos he];exact qdpb _ _ _
  rw[if_neg he];(have he0:(qba s.f s.g s.h s.ms p.proto sub p.sport draw).e=0:=by omega)
  obtain⟨G,hm,_⟩:=qk3 he0
  have ht:=qfqb he0
  generalize qba s.f s.g s.h s.ms p.proto sub p.sport draw=o at *
  obtain⟨r1,r2,r3⟩:=qd2b ((s.setT o.f o.h o.ms).begin (mkF o.m p.dst p.dport (qao p.proto))) l (mkF o.m p.dst p.dport (qao p.proto));have rf:=qb3b ((s.setT o.f o.h o.ms).begin (mkF o.m p.dst p.dport (qao p.proto))) l (mkF o.m p.dst p.dport (qao p.proto))
  generalize((s.setT o.f o.h o.ms).begin (mkF o.m p.dst p.dport (qao p.proto))).leave l (mkF o.m p.dst p.dport (qao p.proto))=r at *
  have r2':r.2.logged=s.logged:=r2;have r3':r.2.now=s.now:=r3;have rf':r.2.f=o.f:=rf
  rcases ht with⟨t1,t2⟩|⟨t1,t2,t3⟩
  ·rw[if_neg (by rw[t1];simp)]
   refine⟨[],?_⟩
   rw[r1]
   exact qczb r2' (rf'.trans t2) (by rw[r3'];exact Int.le_refl _)
  ·rw[if_pos t1];have hs:=G.maps.1 _ hm;have hok:=qglb hs (now:=r.2.now) (by rw[r3'];exact h.now) false;obtain⟨l1,l2⟩:=qfub r.2 [evN r.2.now o.m false]
   refine⟨[evN r.2.now o.m false],?_,?_,fun e he=>?_,by simp,fun f' hf=>?_,?_⟩
   ·rw[←r2'];exact l1
   ·rw[←r2'];exact l2
   ·obtain rfl:=List.mem_singleton.1 he
    refine⟨hok,?_⟩
    have:(r.2.log [evN r.2.now o.m false]).2.now=r.2.now:=(q5a _ _).now
    exact this.symm
   ·have hz:f' (at6 (evN r.2.now o.m false))=0:=by
     rw[hf _ (qfpb hok),qd7b];exact t3
    refine⟨upd f' (at6 (evN r.2.now o.m false)) (ownN (evN r.2.now o.m false)),qdxb (es:=[]) rfl hok (by rw[hz];rfl),?_⟩
    have e1:(r.2.log [evN r.2.now o.m false]).2.f=o.f:=(qckb _ _).trans rf';rw[e1,t2]
    exact hf.upd _ _
   ·have:(r.2.log [evN r.2.now o.m false]).2.now=r.2.now:=(q5a _ _).now
    show s.now<=(r.2.log [evN r.2.now o.m false]).2.now
    rw[this,r3'];exact Int.le_refl _
theorem qfmb(h:Ci s)(l:List UInt8)(draw:Int):∃es,qdbb s (s.out l draw).1.lg (s.out l draw).2 es:=by
 (have no:∀e:Int,∃es,qdbb s (qas e).lg s es:=fun e=>⟨[],qczb rfl rfl (Int.le_refl _)⟩)
 unfold Nt.out
 split
 ·exact no _
 split
 ·exact no _
 split
 ·exact no _
 split
 ·exact no _
 split
 ·exact⟨[],(qexb _ _ _).from rfl rfl (Int.le_refl _)⟩
 ·split
  ·exact no _
  ·exact qeyb h l _ _ _
theorem qfbb{l:List Int}(hok:TkOk s l)(hn:0<=s.now/\s.now<=549755813888)(f':Nat->Int)(hf:Eq18 s.f f'):∀j,j<=l.length->(∀e∈(qbu s (l.take j)).1,okE e/\e.t=s.now)/\∃f'',qcub f' (qbu s (l.take j)).1=(0,f'')/\Eq18 (qbu s (l.take j)).2.f f'':=by
 intro j
 induction j with
 | zero=>intro _;rw[List.take_zero];exact⟨fun e he=>(by simp[qbu] at he),f',rfl,hf⟩
 | succ j ih=>
  intro hj;obtain⟨h1,f1,h2,h3⟩:=ih om;have FO:=qng hok j om
  rw[List.drop_eq_getElem_cons om] at FO
  obtain⟨x,hx,ex⟩:=FO.ok.there l[j] List.mem_cons_self;have hst:=qgd s (l.take j) l[j]
  rw[←List.take_succ_eq_append_getElem om,←ex,show qbu s (l.take j)=((qbu s (l.take j)).1,(qbu s (l.take j)).2) from rfl,qlw _ FO.ok.up hx] at hst
  have hnow:=FO.rest.1;have hmm:=FO.ok.mem x hx;have hS:=FO.ok.good.maps.1 _ hmm;rw[hst]
  generalize(qbu s (l.take j)).2=a at *
  generalize(qbu s (l.take j)).1=es at *
  have hk:=(qo2 (a.less (x.1:Int)) (flM x.2)).2.1
  have hcu:(((a.less (x.1:Int)).closeU (flM x.2)).1=false/\((a.less (x.1:Int)).closeU (flM x.2)).2.f=a.f)\/(((a.less (x.1:Int)).closeU (flM x.2)).1=true/\((a.less (x.1:Int)).closeU (flM x.2)).2.f=qdx a.f (flM x.2)):=by
   unfold Nt.closeU
   split
   ·exact .inl ⟨rfl,rfl⟩
   ·unfold qe1
    split
    ·exact .inl ⟨rfl,rfl⟩
    ·exact .inr ⟨rfl,rfl⟩
  have hnw:((a.less (x.1:Int)).closeU (flM x.2)).2.now=s.now:=hk.trans hnow
  rcases hcu with⟨c1,c2⟩|⟨c1,c2⟩
  ·rw[c1,c2]
   exact⟨h1,f1,h2,h3⟩
  ·rw[c1,c2,hnw,if_pos rfl];have hok':=qglb hS hn true
   refine⟨fun e he=>?_,upd f1 (at6 (evN s.now (flM x.2) true)) (ownN (evN s.now (flM x.2) true)),qdxb h2 hok' ?_,?_⟩
   ·rcases List.mem_append.1 he with h4|h4
    ·exact h1 e h4
    ·obtain rfl:=List.mem_singleton.1 h4
     exact⟨hok',rfl⟩
   ·rw[h3 _ (qfpb hok'),qd7b];have hp:a.f (qa7 (flM x.2))=(flM x.2).2.1+1:=hS.2.2.2.2.2.2;rw[hp]
    unfold bhE
    rw[if_neg (by intro hh;cases hh.1),if_neg]
    rintro⟨_,h5⟩
    exact h5 rfl
   ·rw[qd7b]
    exact h3.upd _ _
theorem qe9b(h:Ci s)(n:Int):∃es,qdbb s (s.tick n).1.lg (s.tick n).2 es:=by
 unfold Nt.tick
 split
 ·exact⟨[],qczb rfl rfl (Int.le_refl _)⟩
 ·next hn=>
  refine m61 ?_;intro hok hok1;have F:=qsn h n;(have hT:=fun f' (hf:Eq18 s.f f')=>qfbb hok1 (by have:=h.now;show 0<=s.now+n/\s.now+n<=549755813888;omega) f' hf _ (Nat.le_refl _))
  rw[List.take_length] at hT
  show ∃es,qdbb s ((qbu (s.later n) (s.dueL (s.now+n))).2.log (qbu (s.later n) (s.dueL (s.now+n))).1).1 ((qbu (s.later n) (s.dueL (s.now+n))).2.log (qbu (s.later n) (s.dueL (s.now+n))).1).2 es
  have r1:(qbu (s.later n) (s.dueL (s.now+n))).2.now=s.now+n:=F.rest.1;have r3:(qbu (s.later n) (s.dueL (s.now+n))).2.logged=s.logged:=F.rest.2.2.1
  have hlen:(qbu (s.later n) (s.dueL (s.now+n))).1.length<=48:=by
   have h1:=F.es;have h2:=F.len;have h3:(s.later n).fs.length=s.fs.length:=rfl
   have:=h.few
   omega
  generalize qbu (s.later n) (s.dueL (s.now+n))=r at *
  obtain⟨l1,l2⟩:=qfub r.2 r.1;have hl:=q5a r.2 r.1
  refine⟨r.1,by rw[←r3];exact l1,by rw[←r3];exact l2,fun e he=>?_,hlen,fun f' hf=>?_,?_⟩
  ·obtain⟨k1,k2⟩:=(hT s.f (Eq18.refl _)).1 e he
   refine⟨k1,?_⟩
   rw[hl.now,r1];exact k2
  ·obtain⟨f'',h1,h2⟩:=(hT f' hf).2
   exact⟨f'',h1,by rw[hl.f];exact h2⟩
  ·rw[hl.now,r1];omega
theorem qfxb(h:Ci s)(a:Ac):∃es,qdbb s (s.act a).1.lg (s.act a).2 es:=by
 unfold Nt.act
 split
 ·exact⟨[],qczb rfl rfl (Int.le_refl _)⟩
 ·dsimp only
  split
  ·obtain⟨es,hh⟩:=qfmb (h.acts (s.acts+1)) a.fr.data.toList a.dr
   exact⟨es,hh.from rfl rfl (Int.le_refl _)⟩
  split
  ·exact⟨[],(qffb _ _).from rfl rfl (Int.le_refl _)⟩
  split
  ·obtain⟨es,hh⟩:=qe9b (h.acts (s.acts+1)) a.n
   exact⟨es,hh.from rfl rfl (Int.le_refl _)⟩
  split
  ·exact⟨[],qczb rfl rfl (Int.le_refl _)⟩
  split
  ·exact⟨[],qczb rfl rfl (Int.le_refl _)⟩
  ·exact⟨[],qczb rfl rfl (Int.le_refl _)⟩
structure qdcb(s:Nt)(L:List UInt8)(all:List Ev):Prop where
 len:all.length=s.logged
 none:s.logged=0->L=[]
 told:0<s.logged->qdyb L all
 own:∃f,qcub z0 all=(0,f)/\Eq18 s.f f
 time:∀e∈all,e.t<=s.now
theorem qgub(loose:Bool):qdcb (nt0 loose) [] []:=⟨rfl,fun _=>rfl,fun h=>absurd h (by simp[nt0]),⟨z0,rfl,fun _ _=>rfl⟩,fun e he=>(by cases he)⟩
theorem qfgb:∀ {f f':Nat->Int} {es':List Ev},qcub f es=(0,f')->qcub f (es++es')=qcub f' es':=by
 induction es with
 | nil=>
  intro f f' es' h
  have:f'=f:=by have:=congrArg (·.2) h;exact this.symm
  subst this
  rfl
 | cons x r ih=>
  intro f f' es' h
  show qcub f (x::(r++es'))=_
  unfold qcub at h
  conv=>lhs;unfold qcub
  by_cases h1:okE x
  ·rw[if_pos h1] at h ⊢
   by_cases h2:bhE (f (at6 x)) x=0
   ·rw[if_pos h2] at h ⊢
    exact ih h
   ·rw[if_neg h2] at h
    exact absurd (congrArg (·.1) h) h2
  ·rw[if_neg h1] at h
   exact absurd (congrArg (·.1) h) zm
theorem qf6b{t:Int}(h:∀e∈all,e.t<=t):qcyb all t=false:=by
 unfold qcyb
 cases hg:all.getLast? with
 | none=>rfl
 | some e=>
  have:=h e (List.mem_of_getLast? hg)
  simp only[decide_eq_false_iff_not]
  omega
theorem qdcb.more(h:qdcb s L all)(k:qdbb s lg t es)(hs:s.logged<=100000):qdcb t (L++lg.data.toList) (all++es):=by
 obtain⟨f,hf,he⟩:=h.own;obtain⟨f2,hf2,he2⟩:=k.own f he;(have hla:qcyb all t.now=false:=qf6b (fun e hx=>Int.le_trans (h.time e hx) k.now));(have hown:∃f,qcub z0 (all++es)=(0,f)/\Eq18 t.f f:=⟨f2,by rw[qfgb hf];exact hf2,he2⟩)
 have htime:∀e∈all++es,e.t<=t.now:=fun e hx=>by
  rcases List.mem_append.1 hx with h1|h1
  ·exact Int.le_trans (h.time e h1) k.now
  ·rw[(k.ok e h1).2];exact Int.le_refl _
 (have hlen:(all++es).length=t.logged:=by rw[List.length_append,h.len,k.logged])
 by_cases h0:es.length=0
 ·have e0:es=[]:=List.eq_nil_of_length_eq_zero h0;(have hl:lg=ByteArray.empty:=by rw[k.lg];unfold logT;rw[if_pos h0])
  subst e0
  have hz:t.logged=s.logged:=k.logged;rw[hl];(have e1:L++ByteArray.empty.data.toList=L:=by simp);rw[e1]
  exact⟨hlen,fun hh=>h.none (by rw[←hz];exact hh),fun hh=>by rw[List.append_nil];exact h.told (by rw[←hz];exact hh),hown,htime⟩
 ·have hM:okM es:=fun e hx=>by
   refine⟨(k.ok e hx).1,?_⟩
   cases es with
   | nil=>cases hx
   | cons y r=>rw[(k.ok e hx).2];exact(k.ok y List.mem_cons_self).2.symm
  have htm:tmE es=t.now:=by
   cases es with
   | nil=>exact absurd rfl h0
   | cons y r=>exact(k.ok y List.mem_cons_self).2
  have hfew:=k.few;(have hq:qi0 (s.logged:Int)=true:=by unfold qi0;simp;omega)
  have hme:mesT (s.logged:Int) es=txt (msgB t.now (all.length:Int) 300 (setB es)):=by
   unfold mesT msgT
   rw[if_neg h0,if_neg om,if_pos hM,htm,if_pos hq,h.len]
  have hp:∀e∈es,okE e/\e.t=t.now:=k.ok
  refine⟨hlen,fun hh=>?_,fun _=>?_,hown,htime⟩
  ·have:=k.logged;omega
  ·(have hlg:lg=(if s.logged=0 then msgT 0 0 2 (tplB 6) else ByteArray.empty)++txt (msgB t.now (all.length:Int) 300 (setB es)):=by rw[k.lg];unfold logT;rw[if_neg h0,hme])
   by_cases hz:s.logged=0
   ·rw[if_pos hz] at hlg
    have ha:all=[]:=List.eq_nil_of_length_eq_zero (by rw[h.len,hz]);(have hmt:msgT 0 0 2 (tplB 6)=txt (msgB 0 0 2 (tplB 6)):=by unfold msgT;rw[if_pos (by decide)])
    have:L++lg.data.toList=msgB 0 0 2 (tplB 6)++msgB t.now (all.length:Int) 300 (setB es):=by
     rw[hlg,hmt,h.none hz]
     simp[txt]
    rw[this]
    subst ha
    exact qeab qf9b t.now es hp om om zm hla
   ·rw[if_neg hz] at hlg
    have:L++lg.data.toList=L++msgB t.now (all.length:Int) 300 (setB es):=by
     rw[hlg];simp[txt]
    rw[this]
    exact qeab (h.told om) t.now es hp om om (by rw[h.len];exact hs) hla
theorem qdcb.read(h:qdcb s L all):runM L.length L false []=(0,all):=by
 by_cases hz:s.logged=0
 ·have ha:all=[]:=List.eq_nil_of_length_eq_zero (by rw[h.len,hz])
  rw[h.none hz,ha];rfl
 ·exact qfyb (h.told om)
end Go.Proofs.YtonnjgmognbnbaaGreatDoor
