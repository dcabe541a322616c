/-
  Of what a law stands on.
-/
import Derived.Test.YtnkpgdejagglaaaGreatDoorZyn6
import Derived.Test.YtnkpgdejagglaaaGreatDoorZyn7
import Derived.Test.YtnkpgdejagglaaaGreatDoorZyn8
set_option linter.all false
namespace Go.Proofs.YtnkpgdejagglaaaGreatDoor
open _root_.List renaming length_append->aY,map_cons->aB,map_nil->aI,map_toArray->dx,mem_cons->fO,mem_cons_of_mem->eK,mem_cons_self->jD,mem_filter->dW,mem_map->bQ,nodup_cons->lY
open Go.Value renaming int → I,pointer → V
open Go.IntKind renaming i64 → Z
open _root_.Go.Proofs.Tryz Go.ChangeShapes Go.WideShapes Go.ChangeAt Go.RowKit Go.Maps
set_option maxHeartbeats 16000000
set_option maxRecDepth 100000
variable {W w w0:World}{b c cnt':Nat}{tm zL:Int->Option Int}{F F' F0:Nat->Prop}{L:List (Nat×Obj)}{p:Prop}{m:Mp}{x:Nat×Fl}{l r:List Int}{i:Int}{t:TypeId}{cs:Array Value}{o:Obj}{fs:List (Nat×Fl)}{ops:Array Oper}{rest:List Oper}{a:Act}{Q:Exit->Act->World->Prop}
theorem quz(s:Nt)(p:bM)(m:Mp):(s.dK p m).2.logged=s.logged:=by grind [Nt.dK,Nt.keep,Nt.begin]
theorem q0z(s:Nt)(l:List UInt8):(s.i7 l).2.logged=s.logged:=by grind [Nt.i7,quz]
theorem qvt(s:Nt)(l:List UInt8)(k:Fl):(s.leave l k).2.logged=s.logged:=by grind [Nt.leave,q0z]
def WO(o:MF):Prop:=o.e=0->(∀m∈o.ms,0<=m.2.1/\m.2.1<8)/\(0<=o.m.2.2.2.1/\o.m.2.2.2.1<3)/\(1024<=o.m.2.2.2.2/\o.m.2.2.2.2<1072)
def Nb.zero{s:Nt}(h:Nb w0 W b s tm F0 F L)(hT:jv w0)(h0:¬F0 0):¬F 0:=fun hf=>by
 have:=hT.lt
 rcases h.sub 0 hf with h1|h1
 .exact h0 h1
 .omega
def q0w{s:Nt}(h:cC w b s (dI s.fs) F)(fr:ByteArray)(hs:fr.size<=140737488351232)(p:bM)(sub draw:Int)(hdr:(Lit.int .i64 draw).wf=true)(hT:jv w)(h0:¬F 0)(j8:qh s.h)(oI:s.left<=100)(dn:0<=s.now/\s.now<=549755813888)(hbg:s.began+1<700)(dU:s.fs.length+1<400)(jr:s.logged<=100000)(vQ:0<=p.dst/\p.dst<=4294967295)(hP:vd s.f s.h s.ms p.ae sub p.aj)(hO:WO (eR s.f s.g s.h s.ms p.ae sub p.aj draw)):
  Calls prog 36 #[.pointer (some ⟨b,0,none⟩),.string fr,.agg (dm p),.int .i64 sub,.int .i64 draw] w fun e w'=>e=.returned (.agg (s.first fr.data.toList p sub draw).1.cells)/\∃F',cC w' b (s.first fr.data.toList p sub draw).2 (dI (s.first fr.data.toList p sub draw).2.fs) F'/\Gr F w w'/\∀c,F' c->F c\/w.heap.size<=c:=by
 (have CO:=fun(v:Value) W (hM:cE W v s.ms) (hno:jw v)=>q62 s.f s.g s.h v s.ms p.ae sub p.aj draw j8 hno hdr hP W hM)
 unfold Nt.first
 cases gq:s.full with
 | true=>
  rw[aZ rfl]
  exact q0i h fr hs p sub draw gq oI
 | false=>
  rw[aT zm]
  unfold WO at hO
  generalize eR s.f s.g s.h s.ms p.ae sub p.aj draw=o at *
  obtain⟨e9,f9,h9,fS,m9,t9⟩:=o
  simp only at *
  by_cases he:e9=0
  .rw[aT (fun hx=>hx he)];obtain⟨o1,o2,o3⟩:=hO he
   cases t9 with
   | false=>
    rw[aT zm]
    exact qzq h fr hs p sub draw gq dn hbg dU vQ e9 f9 h9 fS m9 false CO he rfl o1 o2
   | true=>
    rw[aZ rfl]
    exact q0v h fr hs p sub draw gq dn hbg dU vQ e9 f9 h9 fS m9 true CO he rfl o1 o2 hT h0 o3 (by rw[qvt];exact jr)
  .rw[aZ he]
   exact q3p h fr hs p sub draw gq oI e9 f9 h9 fS m9 t9 CO he
def mO(h:p:=by
 go_enter func16,ntmps16
 go_wp2_with (first|(refine gA 29 ?_;refine Wz ?_;intro b6 w9 N)|(go_at_call 29;refine Hy ?_;clear N;intro w5 N)|(refine gA 77 ?_;refine ax 7 77 VR ?_;intro b7 w9 l9 R9 h9;replace N:=N.alloc (o:=ob 77 (dm p0)) l9 R9 h9;clear R9 h9 l9)|(refine gS 77 7 16 ?_;refine sx (dm p) (N.row 0 rfl) ?_;refine oH ?_;clear N;intro w9 N)|(refine gL 3 23 ?_;refine fx (N.row 0 rfl) (p.src) ?_)|(refine gL 3 33 ?_;refine Ia ?_)|(refine gL 3 43 ?_;refine Ib ?_)|(refine gL 3 37 ?_;refine Tr ?_)|(go_at_call 30;go_fit (CA _);refine qX ?_)|(refine gL 77 7 ?_;refine qf 77 (.tmp 7) rfl kr b7 rfl (dm p) (N.row 0 rfl) _ underlying77 rfl (NJ p) ?_)|(go_at_call 32;go_fit (CW _);rintro e w5 ⟨bp,bs,rfl,Rp9,Rs9,bh⟩;replace N:=N.below bh;clear bh CW)|(go_at_call 31;go_fit (CF _ _ N.nat _ _ Rp9 Rs9);rintro e w5 ⟨rfl,bh⟩;replace N:=N.below bh;clear bh Rp9 Rs9 CF)|(go_at_call 35;go_fit (CB _);rintro e w5 ⟨rfl,bh⟩;replace N:=N.below bh;clear bh CB)|(go_at_call 36;go_fit (C1 _ _ N.nat (hT.gr N.gr h0) (N.zero hT h0));rintro e w5 ⟨rfl,F9,fY,dX,fH⟩;clear C1;replace N:=N.call fY dX fH;clear fY dX fH)|(refine gS 29 6 78 ?_;refine sx (r1.cells) (N.row 1 rfl) ?_;refine zJ ?_;clear N;intro w9 N)|(go_at_call 15;go_fit (wj _);refine tE ?_;clear N;intro w5 N)|(refine gS 29 6 72 ?_;refine sx ((eZ 11).cells) (N.row 1 rfl) ?_;refine zJ ?_;clear N;intro w9 N)|(go_at_call 33;go_fit (CG _ _ N.nat);rintro e w5 ⟨rfl,F9,fY,dX,fH⟩;clear CG;replace N:=N.call fY dX fH;clear fY dX fH)|(refine gL 55 64 ?_;obtain⟨EQ,F6⟩:=N.nat.ry;refine qn4 rfl (.tmp 64) rfl b 34 rfl (.map EQ) F6 ?_)|((with_reducible refine iE (.lookup 55 (.tmp 65) (.tmp 66) false) rfl ?_);refine qee rfl 55 (.tmp 65) (.tmp 66) rfl (.map EQ) (I Z ((x.1:Nat):Int)) (.agg (fc k9)) rfl rfl (N.nat.wa F6 EG.out) ?_)|(go_at_call 34;go_fit (CL _ _ N.nat);rintro e w5 ⟨rfl,F9,fY,dX,fH⟩;clear CL F6;replace N:=N.call fY dX fH;clear fY dX fH)|(refine gS 29 6 68 ?_;refine sx (r1.cells) (N.row 1 rfl) ?_;refine zJ ?_;clear N;intro w9 N)|(go_at_call 15;go_fit (pY _);refine tE ?_;clear N;intro w5 N)|(refine gS 29 6 46 ?_;refine sx ((eZ 12).cells) (N.row 1 rfl) ?_;refine zJ ?_;clear N;intro w9 N)|(go_at_call 15;go_fit (CJ _);refine tE ?_;clear N;intro w5 N)|(refine gS 29 6 41 ?_;refine sx ((eZ 4).cells) (N.row 1 rfl) ?_;refine zJ ?_;clear N;intro w9 N)|(go_at_call 15;go_fit (CY _);refine tE ?_;clear N;intro w5 N)|(refine gS 29 6 31 ?_;refine sx ((eZ 7).cells) (N.row 1 rfl) ?_;refine zJ ?_;clear N;intro w9 N)|(refine gS 77 7 16 ?_;refine sx (dm p0) (N.row 0 rfl) ?_;refine oH ?_;clear N;intro w9 N)|(go_at_call 15;go_fit (CF _);refine tE ?_;clear N;intro w5 N)|(refine gS 29 6 21 ?_;refine sx ((eZ (cj l)).cells) (N.row 1 rfl) ?_;refine zJ ?_;clear N;intro w9 N))
 (refine bodyPost_ret (mW (p:=6) rfl _ _ _ _ rfl (N.row 1 rfl) _ underlying29 rfl (ur _)) rfl ⟨rfl,_,N.nat,N.gr,N.sub⟩)):p:=h
def wk(h:p:=by
 rcases HK.out with qE|⟨qE,hk2⟩
 .clear HK
  exact mO
 .clear HK
  exact mO):p:=h
def q76{s:Nt}(h:cC w b s (dI s.fs) F)(fr:ByteArray)(hs:fr.size<=140737488351232)(draw:Int)(hdr:(Lit.int .i64 draw).wf=true)(hT:jv w)(h0:¬F 0)(j8:qh s.h)(hGT:gM s.f s.h s.ms)(oI:s.left<=100)(dn:0<=s.now/\s.now<=549755813888)(hbg:s.began+1<700)(dU:s.fs.length+1<400)(jr:s.logged<=100000)(hst:∀m∈s.ms,0<=m.2.1/\m.2.1<8)(k7:∀x∈s.fs,(0<=x.2.rem/\x.2.rem<=4294967295)/\(0<=x.2.a/\x.2.a<3))(hO:∀p sub i,WO (eR s.f s.g s.h s.ms p sub i draw)):Calls prog 16 #[.pointer (some ⟨b,0,none⟩),.string fr,.int .i64 draw] w fun e w'=>e=.returned (.agg (s.out fr.data.toList draw).1.cells)/\∃F',cC w' b (s.out fr.data.toList draw).2 (dI (s.out fr.data.toList draw).2.fs) F'/\Gr F w w'/\∀c,F' c->F c\/w.heap.size<=c:=by
 have N:=h.start;(have CP:=fun w=>Rx fr w hs)
 simp only[qgx] at CP
 (have Iw:=fun W F (s2:Nt) (hN:cC W b s2 (dI s2.fs) F) k h1 h2 h3 h4 h5 h6=>qn8 hN fr hs k h1 h2 h3 h4 h5 h6);(have Ix:=fun W F (hN:cC W b s (dI s.fs) F) (hT:jv W) (h0:¬F 0) p sub h1 hP=>q0w hN fr hs p sub draw hdr hT h0 j8 oI dn hbg dU jr h1 hP (hO _ _ _))
 unfold Nt.out
 generalize fr.data.toList=l at *
 by_cases hb:cj l=0
 rotate_left
 .rw[aZ hb];(have rb:iw l=p0:=by unfold iw;rw[aT hb])
  rw[rb] at CP
  (have fj:(cj l != 0)=true:=by simpa using hb);(have CF:=fun w=>xp (cj l) w)
  rw[←EM] at CF
  clear rb hb hs dn hbg dU hst Iw Ix hT h0 j8 oI jr k7 hO hdr
  exact mO
 (have rb:iw l=ba l:=by unfold iw;rw[aZ hb]);rw[aT (fun h=>h hb)]
 rw[rb,hb] at CP
 have hrg:=(yg _).1 (uJ _ (Sr hb)).2.1;have OG:=(uJ _ (Sr hb)).1;clear rb hb
 generalize ba l=p at *
 (have CA:=fun w=>qsh p.src w hrg.1 hrg.2.1);(have CY:=fun w=>xp 7 w);(have CJ:=fun w=>xp 4 w);(have pY:=fun w=>xp 12 w);(have wj:=fun w=>xp 11 w)
 rw[←EM] at CY CJ pY wj
 by_cases ha:0<=p.src-167772161/\p.src-167772161<8
 rotate_left
 .rw[aZ ha]
  rw[decide_eq_false ha] at CA
  clear ha hrg hs dn hbg dU hst CJ pY wj Iw Ix hT h0 j8 oI jr k7 hO hdr
  exact mO
 rw[aT (fun h=>h ha)]
 rw[decide_eq_true ha] at CA
 cases hk:(p.ae==1&&p.flags != 8) with
 | true=>
  rw[aZ rfl]
  obtain⟨qE,hk2⟩:(p.ae==1)=true/\(p.flags != 8)=true:=by simpa[Bool.and_eq_true] using hk
  clear ha hrg hs dn hbg dU hst CY pY wj hk Iw Ix hT h0 j8 oI jr k7 hO hdr
  exact mO
 | false=>
  rw[aT zm]
  by_cases ht:p.aG=1
  .rw[aZ ht];(have Rg:(p.aG==1)=true:=by simp[ht]);clear ha hrg hs dn hbg dU hst CY CJ wj ht Iw Ix hT h0 j8 oI jr k7 hO hdr
   cases h1:(p.ae==1) with
   | false=>
    clear hk
    exact mO
   | true=>
    (have h2:(p.flags != 8)=false:=by rw[h1] at hk;simpa using hk);clear hk
    exact mO
  .rw[aT ht];(have Rg:(p.aG==1)=false:=by simp[ht])
   have HK:Hid ((p.ae==1)=false\/(p.ae==1)=true/\(p.flags != 8)=false):=ar (by
    cases h1:(p.ae==1) with
    | false=>exact .inl rfl
    | true=>rw[h1] at hk;exact .inr ⟨rfl,by simpa using hk⟩)
   clear ht hk CJ pY CY;(have CW:=fun w=>qxf p (p.src-167772161) w);(have CF:=fun W F (hN:cC W b s (dI s.fs) F) bp bs Rp Rs=>q5g hN p (p.src-167772161) bp bs Rp Rs)
   cases hf:s.find (cX p (p.src-167772161)) with
   | some x=>
    have hx:=TG hf;(have CG:=fun W F (hN:cC W b s (dI s.fs) F)=>qvy hN hx.1 p false dn)
    rw[hf] at CF
    unfold EN at CF
    simp only
    have hnr:=q3y x.2 p.flags s.now false;have uV:=qvd hx.1 (cq x.2 p.flags false s.now);obtain⟨hr1,hr2⟩:=k7 x hx.1
    generalize cq x.2 p.flags false s.now=k9 at *
    (have CL:=fun W F (hN:cC W b (s.keep x.1 k9) (dI (s.keep x.1 k9).fs) F)=>Iw W F (s.keep x.1 k9) hN k9 (by rw[hnr.1];exact hr1) (by rw[hnr.2];exact hr2) dn (by show s.began<700;omega) (by show(fG s.fs x.1 k9).length<400;rw[qwo];omega) hst);have EG:Hid ((x.1,k9)∈(s.keep x.1 k9).fs):=ar uV
    generalize(s.keep x.1 k9)=s2 at *
    generalize s2.leave l k9=r at *
    obtain⟨r1,r2⟩:=r
    simp only at CL ⊢
    clear hx hf wj Iw Ix hT h0 j8 oI jr k7 hO hdr hs dn hbg dU hst hrg ha hnr uV hr1 hr2
    exact wk
   | none=>
    rw[hf] at CF
    unfold EN at CF
    simp only
    (have CB:=fun w=>qzv p w)
    cases hbg2:mj p with
    | false=>
     rw[hbg2] at CB
     rw[aZ rfl];clear hf Iw Ix hT h0 j8 oI jr k7 hO hdr hs dn hbg dU hst hrg ha hbg2
     exact wk
    | true=>
     rw[hbg2] at CB
     rw[aT zm];(have C1:=fun W F (hN:cC W b s (dI s.fs) F) (hT:jv W) (h0:¬F 0)=>Ix W F hN hT h0 p (p.src-167772161) ⟨hrg.2.2.1,hrg.2.2.2.1⟩ ⟨hGT,OG,ha,by omega⟩)
     generalize s.first l p (p.src - 167772161) draw=r at *
     obtain⟨r1,r2⟩:=r
     simp only at C1 ⊢
     clear hf Iw Ix wj j8 oI jr k7 hO hdr hs dn hbg dU hst hrg ha hbg2
     exact wk
def qw7{f h:Nat->Int}{ms:List Mp}(G:gM f h ms)(hm:m∈ms):gM (sr f h ms m).1 (sr f h ms m).2.1 (dH ms m):=by
 unfold sr
 cases ha:(dH ms m).any (fun o=>eu o==eu m) with
 | true=>rw[aZ rfl];exact q1v G hm ha
 | false=>
  rw[aT zm]
  exact q32 G hm ha
structure jY(a:Nt)(r:List Int):Prop where
 good:gM a.f a.h a.ms
 up:a.fs.Pairwise (fun x y=>x.1<y.1)
 nd:r.Nodup
 there:∀i∈r,∃x∈a.fs,(x.1:Int)=i
 mem:∀x∈a.fs,dZ x.2∈a.ms
def Nt.less(a:Nt)(i:Int):Nt:={ a with fs:=a.fs.filter fun x=>decide ((x.1:Int)≠i) }
theorem q9d{a:Nt}(hp:a.fs.Pairwise (fun x y=>x.1<y.1))(hx:x∈a.fs):a.endF (x.1:Int)=(dZ x.2,a.less (x.1:Int)):=by
 have h:=zx hp hx
 unfold mq at h
 unfold Nt.endF Nt.less
 cases hf:a.fs.find? (fun y=>decide ((y.1:Int)=(x.1:Int))) with
 | none=>rw[hf] at h;cases h
 | some y=>
  rw[hf] at h
  have:y.2=x.2:=Option.some.inj h
  simp[this]
theorem S6{a:Nt}(es:List Ev)(hp:a.fs.Pairwise (fun x y=>x.1<y.1))(hx:x∈a.fs):qC (es,a) (x.1:Int)=(if ((a.less (x.1:Int)).cu (dZ x.2)).1=true then es++[oF ((a.less (x.1:Int)).cu (dZ x.2)).2.now (dZ x.2) true] else es,((a.less (x.1:Int)).cu (dZ x.2)).2):=by
 unfold qC
 rw[q9d hp hx]
theorem qo2(a:Nt)(m:Mp):(a.cu m).2.fs=a.fs/\(a.cu m).2.now=a.now/\(a.cu m).2.left=a.left/\(a.cu m).2.logged=a.logged/\(a.cu m).2.began=a.began/\(a.cu m).2.acts=a.acts/\(a.cu m).2.g=a.g/\(a.cu m).2.loose=a.loose:=by grind [Nt.cu,Nt.dF]
def jY.close{a:Nt}(h:jY a r)(hm:m∈a.ms):jY (a.cu m).2 r:=by
 unfold Nt.cu Nt.dF
 cases hf:a.find (pq m) with
 | some y=>rw[aZ (by rfl)];exact h
 | none=>
  rw[aT zm]
  refine⟨qw7 h.good hm,h.up,h.nd,h.there,fun x hx=>?_⟩
  show dZ x.2∈dH a.ms m
  unfold dH
  refine dW.2 ⟨h.mem x hx,?_⟩
  have:=List.find?_eq_none.1 hf x hx
  unfold pq at this
  simpa using this
theorem jY.less{a:Nt}(h:jY a (i::r)):jY (a.less i) r:=by
 have hn:=lY.1 h.nd
 refine⟨h.good,h.up.filter _,hn.2,fun j hj=>?_,fun x hx=>h.mem x (dW.1 hx).1⟩
 obtain⟨x,hx,e⟩:=h.there j (eK _ hj)
 refine⟨x,dW.2 ⟨hx,decide_eq_true (fun e2=>?_)⟩,e⟩
 grind
theorem jY.step{a:Nt}(h:jY a (i::r))(es:List Ev):jY (qC (es,a) i).2 r:=by
 obtain⟨x,hx,e⟩:=h.there i (jD)
 subst e
 rw[S6 es h.up hx]
 exact h.less.close (h.mem x hx)
theorem qtg{a:Nt}(h:jY a (i::r))(es:List Ev):(qC (es,a) i).2.fs=a.fs.filter fun x=>decide ((x.1:Int)≠i):=by
 obtain⟨x,hx,e⟩:=h.there i (jD)
 subst e
 rw[S6 es h.up hx]
 exact(qo2 _ _).1
def qz7{a:Nt}(h:jY a (i::r))(es:List Ev):(qC (es,a) i).2.fs.length+1=a.fs.length:=by
 rw[qtg h es];obtain⟨x,hx,e⟩:=h.there i (jD)
 subst e
 exact qyf h.up hx
theorem q4d(es:List Ev)(a:Nt)(i:Int):(qC (es,a) i).1.length<=es.length+1:=by grind [qC]
def qw0(es:List Ev)(a:Nt)(i:Int):(qC (es,a) i).2.now=a.now/\(qC (es,a) i).2.left=a.left/\(qC (es,a) i).2.logged=a.logged/\(qC (es,a) i).2.began=a.began/\(qC (es,a) i).2.acts=a.acts/\(qC (es,a) i).2.g=a.g/\(qC (es,a) i).2.loose=a.loose:=(qo2 (a.endF i).2 (a.endF i).1).2
def eW(s:Nt)(l:List Int):List Ev×Nt:=l.foldl qC ([],s)
theorem Ht(s:Nt)(l:List Int)(i:Int):eW s (l++[i])=qC (eW s l) i:=by grind [eW,qC]
structure zA(s:Nt)(l r:List Int):Prop where
 ok:jY (eW s l).2 r
 len:(eW s l).2.fs.length+l.length=s.fs.length
 es:(eW s l).1.length<=l.length
 rest:(eW s l).2.now=s.now/\(eW s l).2.left=s.left/\(eW s l).2.logged=s.logged/\(eW s l).2.began=s.began/\(eW s l).2.acts=s.acts/\(eW s l).2.g=s.g/\(eW s l).2.loose=s.loose
 fs:(eW s l).2.fs=s.fs.filter fun x=>decide ((x.1:Int) ∉ l)
def zA.start{s:Nt}(h:jY s r):zA s [] r:=⟨h,rfl,by simp[eW],⟨rfl,rfl,rfl,rfl,rfl,rfl,rfl⟩,by show s.fs=_;rw[List.filter_eq_self.2];intro x hx;simp⟩
theorem zA.step{s:Nt}(h:zA s l (i::r)):zA s (l++[i]) r:=by
 have e:eW s l=((eW s l).1,(eW s l).2):=rfl;have h1:=qz7 h.ok (eW s l).1;have h2:=q4d (eW s l).1 (eW s l).2 i;have h3:=qw0 (eW s l).1 (eW s l).2 i;have h4:=qtg h.ok (eW s l).1
 refine⟨by rw[Ht,e];exact h.ok.step _,?_,?_,?_,?_⟩
 .rw[Ht,e,aY]
  have:=h.len
  grind
 .rw[Ht,e,aY]
  have:=h.es
  grind
 .rw[Ht,e];obtain⟨a1,a2,a3,a4,a5,a6,a7⟩:=h.rest
  grind
 .rw[Ht,e,h4,h.fs,List.filter_filter]
  grind
structure Tk(w0 W:World)(b:Nat)(s:Nt)(tm:Int->Option Int)(F0 F:Nat->Prop)(cnt:Nat)(L:List (Nat×Obj))(gv:Value)(es:List Ev):Prop where
 nc:Nc w0 W b s tm F0 F cnt L
 ev:lU W w0.heap.size gv es
 wl:∀c,gv.ownBlock=some c->¬F c/\c ∉ L.map (·.1)
section
variable {w0 W W':World} {b:Nat} {s:Nt} {tm:Int->Option Int} {F0 F:Nat->Prop} {cnt:Nat} {L:List (Nat×Obj)} {gv:Value} {es:List Ev}
def Tk.row(h:Tk w0 W b s tm F0 F cnt L gv es)(i:Nat)(hi:L[i]?=some (c,ob t cs)):aP t W c cs:=h.nc.row i hi
def Tk.call(h:Tk w0 W b s tm F0 F cnt L gv es){s':Nt}(hn:fT W' b s' zL F' cnt')(hg:Gr F W W')(hF:∀c,F' c->F c\/W.heap.size<=c):Tk w0 W' b s' zL F0 (fun c=>F' c/\c<W'.heap.size) cnt' L gv es:=
 ⟨h.nc.call hn hg hF,h.ev.keep (fun g Q8=>hg.block g (h.ev.ge g Q8).2 (h.wl g Q8).1),fun c hc=>⟨fun hf=>by
  have h1:=(h.ev.ge c hc).2
  rcases hF c hf.1 with h2|h2
  .exact(h.wl c hc).1 h2
  .omega,(h.wl c hc).2⟩⟩
def Tk.below(h:Tk w0 W b s tm F0 F cnt L gv es)(hb:Below W.heap.size W W'):Tk w0 W' b s tm F0 F cnt L gv es:=⟨h.nc.below hb,h.ev.below hb,h.wl⟩
def Tk.drew(h:Tk w0 W b s tm F0 F cnt L gv es):Tk w0 W.drew b s tm F0 F cnt L gv es:=h.below (Below.refl _ _).drew
def Tk.alloc(h:Tk w0 W b s tm F0 F cnt L gv es)(hl:W.heap.size<=c)(R:W'.heap[c]?=some o)(hb:Below W.heap.size W W'):Tk w0 W' b s tm F0 F cnt ((c,o)::L) gv es:=
 ⟨h.nc.alloc hl R hb,h.ev.below hb,fun k hk=>⟨(h.wl k hk).1,fun hm=>by
  rw[aB] at hm
  rcases fO.1 hm with e|e
  .have:=(h.ev.ge k hk).2;simp only at e;omega
  .exact(h.wl k hk).2 e⟩⟩
theorem Tk.turn(h:Tk w0 W b s tm F0 F cnt L gv es)(i:Nat){cs':Array Value}(hi:L[i]?=some (c,ob t cs))(R:aP t W' c cs')(T:gG c W W'):Tk w0 W' b s tm F0 F cnt (L.set i (c,ob t cs')) gv es:=by
 have hlt:i<L.length:=(List.getElem?_eq_some_iff.1 hi).1
 have hm:(L.set i (c,ob t cs')).map (·.1)=L.map (·.1):=by
  apply List.ext_getElem?
  grind
 refine⟨h.nc.turn i hi R T,h.ev.turned T (fun e=>(h.wl c e).2 (bQ.2 ⟨_,List.mem_of_getElem? hi,rfl⟩)),fun k hk=>⟨(h.wl k hk).1,?_⟩⟩
 rw[hm]
 exact(h.wl k hk).2
def Nb.ib{G:Nat->Prop}(h:Nb w0 W b s tm F0 F L)(hg:Gr G W W')(h1:∀c,G c->¬F c)(h2:∀c,G c->c ∉ L.map (·.1))(h3:∀c,G c->w0.heap.size<=c):Nb w0 W' b s tm F0 F L:=
 ⟨h.nat.keep hg (fun c hc hG=>h1 c hG hc),h.gr.trans hg (fun x hx=>.inr (h3 x hx)),h.sub,fun c hc=>Nat.lt_of_lt_of_le (h.bd c hc) hg.size,h.nodup,fun y hy=>⟨(hg.block _ (h.lt (bQ.2 ⟨y,hy,rfl⟩)) (fun hG=>h2 _ hG (bQ.2 ⟨y,hy,rfl⟩))).trans (h.rows y hy).1,(h.rows y hy).2⟩⟩
def Tk.push(h:Tk w0 W b s tm F0 F cnt L gv es){gv':Value}{es':List Ev}(he:lU W' w0.heap.size gv' es')(hg:dC gv gv' W W'):Tk w0 W' b s tm F0 F cnt L gv' es':=by
 (have G:Gr (fun c=>gv.ownBlock=some c) W W':=Gr.ep hg.ii (fun c hc=>hc))
 refine⟨⟨h.nc.nb.ib G (fun c hc=>(h.wl c hc).1) (fun c hc=>(h.wl c hc).2) (fun c hc=>(h.ev.ge c hc).1),h.nc.nc.keep G (fun c hc e=>(h.wl c e).1 hc)⟩,he,fun c hc=>?_⟩
 rcases hg.lies with e|⟨k,e,hk⟩
 .exact h.wl c (e▸hc)
 .rw[e] at hc
  obtain rfl:=Option.some.inj hc
  exact⟨fun hf=>by have:=h.nc.nb.bd _ hf;omega,fun hm=>by have:=h.nc.nb.lt hm;omega⟩
def Tk.tail{y:Nat×Obj}(h:Tk w0 W b s tm F0 F cnt (y::L) gv es):Tk w0 W b s tm F0 F cnt L gv es:=
 ⟨⟨⟨h.nc.nb.nat,h.nc.nb.gr,h.nc.nb.sub,h.nc.nb.bd,(lY.1 h.nc.nb.nodup).2,fun z hz=>h.nc.nb.rows z (eK _ hz)⟩,h.nc.nc⟩,h.ev,fun c hc=>⟨(h.wl c hc).1,fun hm=>(h.wl c hc).2 (eK _ hm)⟩⟩
end
def q05(z:Int->Int)(h:l.Perm r):js z l=js z r:=by
 (have tr:∀a b c:Int,tB z a b=true->tB z b c=true->tB z a c=true:=fun a b c h1 h2=>by unfold tB at *;simp only[decide_eq_true_eq] at *;omega);(have TP:∀a b:Int,(tB z a b||tB z b a)=true:=fun a b=>by unfold tB;rw[Bool.or_eq_true,decide_eq_true_eq,decide_eq_true_eq];omega)
 refine List.Perm.eq_of_pairwise (le:=fun a b=>tB z a b=true) (fun a b _ _ h1 h2=>by unfold tB at *;simp only[decide_eq_true_eq] at *;omega) (List.pairwise_mergeSort tr TP l) (List.pairwise_mergeSort tr TP r) ?_
 exact((List.mergeSort_perm l _).trans h).trans (List.mergeSort_perm r _).symm
theorem qyc(hp:fs.Pairwise (fun x y=>x.1<y.1))(t i:Int):i∈((fs.filter fun x=>decide (x.2.du<=t)).map fun x=>(x.1:Int))↔∃d,dI fs i=some d/\d<=t:=by
 constructor
 .intro h
  obtain⟨x,hx,rfl⟩:=bQ.1 h
  obtain⟨h1,h2⟩:=dW.1 hx
  exact⟨x.2.du,by rw[MW,zx hp h1];rfl,by simpa using h2⟩
 .rintro⟨d,h1,h2⟩
  unfold dI at h1
  cases hf:fs.find? (fun x=>decide ((x.1:Int)=i)) with
  | none=>rw[hf] at h1;cases h1
  | some x=>
   rw[hf] at h1
   have e:=qqv hf;have hd:x.2.du=d:=Option.some.inj h1
   exact bQ.2 ⟨x,dW.2 ⟨List.mem_of_find?_eq_some hf,by simpa[hd] using h2⟩,e⟩
def qsv(hp:fs.Pairwise (fun x y=>x.1<y.1))(P:Nat×Fl->Bool):((fs.filter P).map fun x=>(x.1:Int)).Nodup:=by
 unfold List.Nodup
 rw[List.pairwise_map]
 exact(hp.filter P).imp (fun h e=>by omega)
theorem qwd{s:Nt}{t:Int}{off:List Int}(hp:s.fs.Pairwise (fun x y=>x.1<y.1))(hn:off.Nodup)(hm:∀i,i∈off↔∃d,dI s.fs i=some d/\d<=t):js (dz (dI s.fs)) off=s.cK t:=by
 unfold Nt.cK
 exact q05 _ ((List.perm_ext_iff_of_nodup hn (qsv hp _)).2 (fun i=>(hm i).trans (qyc hp t i).symm))
theorem qvn{s:Nt}(hp:s.fs.Pairwise (fun x y=>x.1<y.1))(t i:Int):i∈s.cK t↔∃d,dI s.fs i=some d/\d<=t:=by
 unfold Nt.cK
 rw[qoo,qyc hp]
theorem S7{s:Nt}(G:gM s.f s.h s.ms)(hp:s.fs.Pairwise (fun x y=>x.1<y.1))(hm:∀x∈s.fs,dZ x.2∈s.ms)(t:Int):jY s (s.cK t):=by
 refine⟨G,hp,qpy _ _ (qsv hp _),fun i hi=>?_,hm⟩
 grind [Nt.cK,qoo,dZ]
theorem q7x{s:Nt}(hp:s.fs.Pairwise (fun x y=>x.1<y.1))(t:Int):Cl t (dI s.fs)=dI (s.fs.filter fun x=>decide ((x.1:Int) ∉ s.cK t)):=by grind [qvn,dI,Cl]
theorem q7s{s:Nt}(h:cC w b s (dI s.fs) F)(tn:Int)(h1:s.now<=tn)(h2:tn<=1099511627776):Calls prog 41 #[V (some ⟨b,37,none⟩),I Z tn] w fun e w'=>∃sa c F' cnt',e=.returned (.tuple #[.slice sa (s.cK tn).length c,I Z 0])/\gT w' (.slice sa (s.cK tn).length c) (s.cK tn)/\fT w' b { s with now:=tn } (Cl tn (dI s.fs)) F' cnt'/\cnt'+(s.cK tn).length<=s.fs.length/\Gr F w w'/\(∀c,F' c->F c\/w.heap.size<=c)/\(∀k,(Value.slice sa (s.cK tn).length c).ownBlock=some k->¬F' k/\w.heap.size<=k):=by
 obtain⟨cs,v,ov,fm,D,Fw,cnt,M,hF⟩:=h;refine(qys M.iR h1 h2).mono ?_
 rintro e w' ⟨v9,rfl,off,cs',F',cnt',UE,kO,hown,qhQ,hW,hs,hg,hf,hl,hc⟩
 rw[qwd M.up UE kO] at hown
 (have hlen:off.length=(s.cK tn).length:=by rw[←qwd M.up UE kO,qo1])
 obtain⟨sa,c,rfl⟩:=Gg hown
 have dU:=M.few;have M':=M.uq hW hs hg hf om
 refine⟨sa,c,oV F' fm ov v s.ms,cnt',rfl,hown,⟨cs',v,ov,fm,D,F',M',fun c hc=>hc⟩,by omega,hg.mono (fun c hc=>hF c (.inl hc)),fun c hc=>?_,fun k hk=>⟨fun hc=>?_,hl k hk⟩⟩
 .rcases hc with h1|h1|h1|h1
  .rcases hf c h1 with h2|h2
   .exact .inl (hF c (.inl h2))
   omega
  .exact .inl (hF c (.inr (.inl h1)))
  .exact .inl (hF c (.inr (.inr (.inl h1))))
  .exact .inl (hF c (.inr (.inr (.inr h1))))
 .have hlk:=hl k hk
  rcases hc with h1|h1|h1|⟨h1,rfl⟩
  .exact qhQ k hk h1
  .rcases M.fu with⟨e,_⟩|⟨bm,e,hm⟩
   .grind
   .rw[e] at h1;cases h1;have:=hm.lt;omega
  .obtain⟨cur,m,hh⟩:=zN M.ids h1
   grind
  .have:=M.maps.lt h1;omega
def qpz{o:Oper}(hgd:o.guard=none)(x:Operand)(ho:o.op=.call { callee:=.builtin .min,args:=#[x,.const (I Z 4)],argTypes:=#[3,3] })(n:Int)(hx:a.eval x=I Z n)(hr:wpList prog ops Q rest (a.put o.dst (I Z (min n 4))) w):wpList prog ops Q (o::rest) a w:=
 wpList_plain hgd fun K hK=>by
  (have e:(if (4:Int)<n then(4:Int) else n)=min n 4:=by split<;>omega);have hz:a.eval (.const (I Z 4))=I Z 4:=rfl
  unfold Oper.wp execOp
  simp only[ho,resolve,invoke,builtin,Sem.run_bind,Sem.run_pure,Result.andThen_ok,dx,aB,aI,hx,hz,run_min_int2]
  rw[e]
  exact hK _ _ hr
theorem q1i(c:Int)(l:ByteArray)(w:World):(Instr.build 29 #[(0,I Z c),(3,.string l)]).run prog w=.ok (.agg (Rp.cells ⟨c,ByteArray.empty,false,l⟩)) w:=by kernel_rfl
def qwk{o:Oper}(x y:Operand)(hgd:o.guard=none)(ho:o.op=.build 29 #[(0,x),(3,y)])(c:Int)(l:ByteArray)(hx:a.eval x=I Z c)(hy:a.eval y=.string l)(hr:wpList prog ops Q rest (a.put o.dst (.agg (Rp.cells ⟨c,ByteArray.empty,false,l⟩))) w):wpList prog ops Q (o::rest) a w:=
 wpList_plain hgd fun K hK=>by
  unfold Oper.wp execOp
  simp only[ho,dx,aI,aB,hx,hy,Sem.run_bind,q1i,Result.andThen_ok,Sem.run_pure]
  exact hK _ _ hr
def Nb.adv{W':World}{s s':Nt}{b4:Nat}{sa:Option Addr}(h:Nb w0 W b s tm F0 F [(b4,o)])(hn:fT W' b s' zL F' cnt')(hg:Gr F W W')(hF:∀c,F' c->F c\/W.heap.size<=c)(ho:gT W' (.slice sa l.length c) l)(hk:∀k,(Value.slice sa l.length c).ownBlock=some k->¬F' k/\W.heap.size<=k):
  ∃Lx,Tk w0 W' b s' zL F0 (fun c=>F' c/\c<W'.heap.size) cnt' ((b4,o)::Lx) (.slice none 0 0) []/\∀j (hj:j<l.length),∃g cur,sa=some ⟨g,0,none⟩/\(g,ob 3 cur)∈Lx/\cur[j]?=some (I Z l[j]):=by
 have C:=h.call hn.nat hg hF
 by_cases h0:0<l.length
 .obtain⟨g,kp,cur,pd,hh,_,_,hcs,ht⟩:=ho.shape h0
  obtain⟨rfl,-⟩:sa=some ⟨g,0,none⟩/\_:=by simpa using pd
  obtain⟨k1,k2⟩:=hk g rfl;have hb4:b4<W.heap.size:=h.lt zm
  refine⟨[(g,ob 3 cur)],⟨⟨⟨C.nat,C.gr,C.sub,C.bd,?_,fun y hy=>?_⟩,hn.bound⟩,lU.nil _ _,fun k hk=>by simp[Value.ownBlock] at hk⟩,fun j hj=>⟨g,cur,rfl,by simp,Gf ht j hj⟩⟩
  .simp only[aB,aI,lY,fO,List.not_mem_nil,or_false,not_false_eq_true,List.nodup_nil,and_true]
   omega
  .rcases fO.1 hy with rfl|hy
   .exact C.rows _ zm
   .obtain rfl:=List.mem_singleton.1 hy
    exact⟨hh,Nat.le_trans h.gr.size k2,fun hf=>k1 hf.1⟩
 .exact⟨[],⟨⟨C,hn.bound⟩,lU.nil _ _,fun k hk=>by simp[Value.ownBlock] at hk⟩,fun j hj=>absurd hj om⟩
theorem Tk.cast{s:Nt}{cnt:Nat}{gv:Value}{es:List Ev}(h:Tk w0 W b s tm F0 F cnt L gv es){p:List Ev×Nt}(hp:p=(es,s)):Tk w0 W b p.2 tm F0 F cnt L gv p.1:=by grind
def qng{s:Nt}(h:jY s l):∀j,j<=l.length->zA s (l.take j) (l.drop j):=by
 intro j
 induction j with
 | zero=>intro _;rw[List.take_zero,List.drop_zero];exact zA.start h
 | succ j ih=>
  intro hj;have h1:=ih om
  rw[List.drop_eq_getElem_cons om] at h1
  rw[List.take_succ_eq_append_getElem om]
  exact h1.step
end Go.Proofs.YtnkpgdejagglaaaGreatDoor
