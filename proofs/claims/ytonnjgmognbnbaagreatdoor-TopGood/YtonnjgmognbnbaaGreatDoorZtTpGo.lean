/-
  Of what a law stands on.
-/
import Derived.Test.YtonnjgmognbnbaaGreatDoorZtTpGm
import Derived.Test.YtonnjgmognbnbaaGreatDoorZtTpH
set_option linter.unusedSimpArgs false
set_option linter.unusedVariables false
namespace Go.Proofs.YtonnjgmognbnbaaGreatDoor
open Go.Value renaming int → I,pointer → V
open Go.IntKind renaming i64 → Z
open _root_.Go.Proofs.Tryz Go.ChangeShapes Go.WideShapes Go.ChangeAt Go.RowKit Go.Maps
set_option maxHeartbeats 16000000
set_option maxRecDepth 100000
theorem qjhb{s:Nt}(c:Ci s):(∀k∈s.fs.map (·.2),flM k∈s.ms)/\(∀m∈s.ms,∃k∈s.fs.map (·.2),flM k=m)/\(∀k∈s.fs.map (·.2),s.now<k.du)/\(s.fs.map (·.2)).Pairwise (fun x y=>¬(flM x=flM y/\x.rem=y.rem/\x.rp=y.rp))/\(s.fs.map (·.2)).length<=48/\(∀m∈s.ms,okG m)/\s.ms.Nodup:=by
 refine⟨fun k hk=>?_,fun m hm=>?_,fun k hk=>?_,?_,by rw[List.length_map];exact c.few,fun m hm=>?_,?_⟩
 ·obtain⟨x,hx,rfl⟩:=List.mem_map.1 hk;exact c.mem x hx
 ·obtain⟨x,hx,e⟩:=c.used m hm;exact⟨_,List.mem_map.2 ⟨x,hx,rfl⟩,e⟩
 ·obtain⟨x,hx,rfl⟩:=List.mem_map.1 hk;exact(c.due x hx).1
 ·exact List.pairwise_map.2 c.apart
 ·obtain⟨h1,h2,h3,h4,h5,_⟩:=c.good.maps.1 m hm
  have h1':=(qo8 _).1 h1
  exact⟨qhob om,qhob om,qhob om,qhob om,qhob om⟩
 ·refine c.good.maps.2.imp fun {o m} h e=>?_
  subst e
  simp[qc0,inS] at h
theorem qiob{ops:Array Oper}{S:World->Prop}{o:Oper}{a:Act}(x y:Operand)(ho:o.op=.binOp .leq 3 x y 3)(hw:Region.wanted o (yielded ops a.tmps)=true)(m n:Int)(hx:a.eval x=I Z m)(hy:a.eval y=I Z n)(h0:n<m):YieldsIf prog ops S o (.bool false) a:=
 .inl ⟨hw,fun w _=>by unfold execOp;have h:¬m<=n:=om;simp only[ho,hx,hy];simp[go_sem,h]⟩
theorem qi5b{α:Type}{l:List α}{q:Nat}(h:q<l.length){m:α}(hm:l[q]=m):l.drop q=m::l.drop (q+1):=by rw[←hm];exact List.drop_eq_getElem_cons h
theorem sZtTpGo1{p:Prop}(h:p:=by
 go_roundw
 case rel=>first|exact⟨q+1,by omega,by go_num,B.less,C⟩|((repeat apply Exists.intro);exact⟨⟨q+1,by omega,by go_num,B.less,C⟩,rfl⟩)|((repeat apply Exists.intro);exact⟨⟨q+1,by omega,by go_num,B.less,C⟩,rfl,rfl⟩)
 case measure=>first|exact HM2.out|(rw[hqw];exact HM2.out)):p:=h
theorem qivb(a:Ac)(r:Rp)(s:Nt)(c:Ci s)(F:Nat->Prop)(b:Nat)(W:World)(hN:qaw W b s (duF s.fs) F):Calls prog 24 #[V (some ⟨b,0,none⟩),.agg (ac a),.agg r.cells] W fun e w'=>e=.returned (.bool true)/\Below W.heap.size W w':=by
 have B:=Rb.start W;(have hml:s.ms.length<=1000:=by have:=c.good.len;omega);(have CT:=fun W' (hB:Below W.heap.size W W')=>qfa (hN.below hB) hml);(have CL:=fun W' (hB:Below W.heap.size W W')=>qhb (hN.below hB));(have CN:=fun W' (hB:Below W.heap.size W W')=>qda (hN.below hB));(have CG:=fun v w (hM:qaz w v s.ms)=>qf8 s.f s.g s.h v s.ms c.good.wf w hM);have HG:Hid (qbq s.f s.h s.ms):=hidN c.good;have hcs:=qjhb c
 obtain⟨ks,hks⟩:∃ks,ks=s.fs.map (·.2):=⟨_,rfl⟩
 obtain⟨ms,hms⟩:∃ms,ms=s.ms:=⟨_,rfl⟩
 obtain⟨f,hf⟩:∃f,f=s.f:=⟨_,rfl⟩
 obtain⟨g,hg⟩:∃g,g=s.g:=⟨_,rfl⟩
 obtain⟨h,hh⟩:∃h,h=s.h:=⟨_,rfl⟩
 obtain⟨now,hnw⟩:∃n,n=s.now:=⟨_,rfl⟩
 rw[←hks,←hms,←hnw] at hcs
 rw[←hms] at hml
 rw[←hf,←hg,←hh,←hms] at CT CG
 rw[←hf,←hh,←hms] at HG
 rw[←hks] at CL
 rw[←hnw] at CN
 clear hks hms hf hg hh hnw c;obtain⟨hmem,hused,hdue,hap,h48,hok,hnd⟩:=hcs
 obtain⟨nm,hnm⟩:∃n,n=ms.length:=⟨_,rfl⟩
 obtain⟨nk,hnk⟩:∃n,n=ks.length:=⟨_,rfl⟩
 (have hnk48:¬(48:Int)<(nk:Int):=by omega);have HK48:Hid (nk<=48):=hidN om;have HML:Hid (nm<=1000):=hidN om;have HKL:Hid (ks.length<=100000):=hidN om;have HNM:Hid (nm=ms.length):=hnm;have HNK:Hid (nk=ks.length):=hnk
 rw[←hnm] at CT
 have HMEM:Hid _:=hidN hmem;have HUSED:Hid _:=hidN hused;have HDUE:Hid _:=hidN hdue;have HAP:Hid _:=hidN hap;have HOKS:Hid _:=hidN hok;have HND:Hid _:=hidN hnd;clear hmem hused hdue hap h48 hok hnd hnm hnk hml
 go_enter func24,ntmps24
 go_wp2_with (first|((with_reducible refine gB 23 1 ?_);refine m4v ?_;intro b4 w9 l9 R9 h9;replace B:=B.below h9;clear R9 h9 l9)|((with_reducible refine gB 27 2 ?_);refine bx 27 (.tmp 2) r.cells ?_;intro b5 w9 l9 R9 h9;replace B:=B.below h9;clear R9 h9 l9)|(go_at_call 21;go_fit (CT _ B.low);rintro e w5 ⟨sa,kc,rfl,hm5,-,-,hb5⟩;clear CT;replace B:=B.below hb5;clear hb5)|(go_at_call 22;go_fit (CL _ B.low);rintro e w5 ⟨v5,rfl,hf5,hb5⟩;clear CL;have C:Cp w5 (fun _=>False) (.slice sa nm kc) ms v5 ks:=⟨hm5.below hb5,fun _ h=>h,hf5.at HKL.out,fun _ h=>h⟩;replace B:=B.below hb5;obtain⟨fa,fcap,hfv⟩:=C.flows.slice;rw[←HNK.out] at hfv;have HFC:Hid (nk<=fcap):=hidN (hf5.cap hfv);subst hfv;clear hb5 hf5 hm5)|((with_reducible refine gA 39 ?_);refine ax 7 39 qbp ?_;intro b7 w9 l9 R9 h9;have HM7:Hid (0<ms.length->mb (.slice sa nm kc)≠b7):=hidN (fun h0 e=>by have:=C.maps.lt h0;omega);have HE7:Hid (0<ks.length->eb (.slice fa nk fcap)≠b7):=hidN (fun h0 e=>by have:=C.flows.lt h0;omega);replace B:=B.alloc (o:=ob 39 (tz)) l9 R9 h9;replace C:=C.below h9;clear R9 h9 l9)|((with_reducible refine gS 39 7 17 ?_);refine sx 39 (.tmp 7) _ (tc f g h (.slice sa nm kc)) (B.row 0 rfl) ?_;intro w9 R9 t9;replace B:=B.turn 0 rfl R9 t9;replace C:=C.turn t9 HM7.out HE7.out;clear R9 t9)|((with_reducible refine gL 39 7 ?_);refine lx 39 (.tmp 7) (tc f g h (.slice sa nm kc)) (B.row 0 rfl) ?_)|(go_at_call 25;refine(CG _ _ C.maps).mono ?_;rintro e w5 ⟨r5,hr5,rfl,hb5⟩;obtain rfl:r5=true:=hr5.2 HG.out;clear CG hr5;replace B:=B.below hb5;replace C:=C.below hb5;clear hb5)|((with_reducible refine qaa (.makeMap 48 none) rfl ?_);refine qipb rfl rfl ?_;intro bm w9 l9 R9 h9;have HMm:Hid (0<ms.length->mb (.slice sa nm kc)≠bm):=hidN (fun h0 e=>by have:=C.maps.lt h0;omega);have HEm:Hid (0<ks.length->eb (.slice fa nk fcap)≠bm):=hidN (fun h0 e=>by have:=C.flows.lt h0;omega);replace B:=B.alloc (o:=.map #[] 0) l9 R9 h9;replace C:=C.below h9;clear R9 h9 l9))
 go_loopw [31] (fun i W1=>∃(j:Nat) (ow:Obj) (n:Nat) (L:List Mp),j<=nk/\i=I Z (j:Int)/\Rb W W1 [(bm,ow),(b7,ob 39 (tc f g h (.slice sa nm kc)))]/\Cp W1 (fun _=>False) (.slice sa nm kc) ms (.slice fa nk fcap) ks/\UsO ow n L/\n<=j/\∀m,m∈L↔∃k∈ks.take j,flM k=m) (fun i _=>nk-(intOf i).toNat)
 case atStart=>exact⟨0,_,0,[],Nat.zero_le _,rfl,B,C,qi9b,Nat.le_refl _,fun m=>by simp⟩
 case round=>
  clear B C hnk48
  obtain⟨j,ow,n,L,hj,rfl,B,C,hU,hn,hL⟩:=hrel
  by_cases hlj:j<nk
  ·(have hjn:(j:Int)<(nk:Int):=by omega);(have hjl:j<ks.length:=by have:=HNK.out;omega);have HJ:Hid (j<=nk):=hidN hj;have HJ1:Hid (j+1<=nk):=hidN hlj;have HN1:Hid (n+1<=j+1):=hidN om;have HNl:Hid (n<maxLen):=hidN (by have:=HK48.out;unfold maxLen;omega);have HM:=qha hlj;have hjw:=qhl (p:=j) (by have:=HK48.out;omega)
   obtain⟨k,hk⟩:∃k,ks[j]=k:=⟨_,rfl⟩
   have hkm:k∈ks:=hk▸List.getElem_mem hjl;have HOk:Hid (okG (flM k)):=hidN (HOKS.out _ (HMEM.out k hkm));have hdu:now<k.du:=HDUE.out k hkm;have HJL:Hid ((ks.take j).length=j):=hidN (List.length_take_of_le om)
   have HAp:Hid (∀x∈ks.take j,¬(flM x=flM k/\x.rem=k.rem/\x.rp=k.rp)):=hidN (fun x hx=>by
    obtain⟨i,hi,e⟩:=List.mem_iff_getElem.1 hx;(have hij:i<j:=by rw[HJL.out] at hi;exact hi)
    rw[List.getElem_take] at e
    have:=List.pairwise_iff_getElem.1 HAP.out i j om hjl hij
    rw[e,hk] at this
    exact this)
   have HL9:Hid (∀m,m∈addU L (flM k)↔∃x∈ks.take (j+1),flM x=m):=hidN (fun m=>by
    rw[qhtb,hL,List.take_succ_eq_append_getElem hjl,hk]
    constructor
    ·rintro(e|⟨x,hx,e⟩)
     ·exact⟨k,by simp,e.symm⟩
     ·exact⟨x,by simp[hx],e⟩
    ·rintro⟨x,hx,e⟩
     rcases List.mem_append.1 hx with hx|hx
     ·exact .inr ⟨x,hx,e⟩
     ·obtain rfl:=List.mem_singleton.1 hx;exact .inl e.symm)
   have rx:=C.flows.at j hjl hk;(have hix:=fun w2=>C.flows.index j hjl w2);clear hj hlj hn hL hkm hk hjl
   go_upto_region 9 with(first|((with_reducible refine gL 52 34 ?_);refine wpList_load_mid rfl 52 (.tmp 34) rfl _ _ rfl (fcl k) _ rx underlying52 rfl (quj _) ?_;rw[qamb])|((with_reducible refine gA 52 ?_);refine ax 11 52 qbr ?_;intro b11 w9 l9 R9 h9;have HM11:Hid (0<ms.length->mb (.slice sa nm kc)≠b11):=hidN (fun h0 e=>by have:=C.maps.lt h0;omega);have HE11:Hid (0<ks.length->eb (.slice fa nk fcap)≠b11):=hidN (fun h0 e=>by have:=C.flows.lt h0;omega);replace B:=B.alloc (o:=ob 52 (fc fl0)) l9 R9 h9;replace C:=C.below h9;clear R9 h9 l9 rx)|((with_reducible refine gS 52 11 35 ?_);refine sx 52 (.tmp 11) _ (fc k) (B.row 0 rfl) ?_;intro w9 R9 t9;replace B:=B.turn 0 rfl R9 t9;replace C:=C.turn t9 HM11.out HE11.out;clear R9 t9)|((with_reducible refine gL 50 37 ?_);refine wpList_load_mid rfl 50 (.tmp 37) rfl _ _ rfl (mcl (flM k)) _ (qfk (B.row 0 rfl)) underlying50 rfl (qby _) ?_;rw[qc2])|((with_reducible refine qaa (.mapUpdate 48 (.tmp 36) (.tmp 38) (.const (.bool true))) rfl ?_);refine qiab rfl (.tmp 36) (.tmp 38) rfl rfl (flM k) rfl HOk.out (hU _ _ (B.obj 1 rfl)) HNl.out ?_;intro w9 hU9 t9;obtain⟨o9,R9,hU8⟩:=hU9.obj;replace B:=B.turn 1 rfl R9 t9;replace C:=C.turn t9 HMm.out HEm.out;clear hU hU9 R9 t9;have hU:=hU8;clear hU8))
   clear hix;have kS:Row 52 _ b11 (fc k):=B.row 0 rfl
   refine RD (fun W=>Row 52 W b11 (fc k)) kS (fun _=>?_)
   replace B:=B.drew;replace C:=C.drew;(refine tq 0 (V (some ⟨b11,9,none⟩)) rfl kS (tk 1 (I Z k.du) rfl (Or.inl ⟨by kernel_rfl,by intro w hS;have hc:=(hS.cell 9).trans (show(fc k)[9]?=some (I Z k.du) from rfl);go_simp⟩) kS (tq 2 (V (some ⟨b,0,none⟩)) rfl kS ?_)));refine m5i ?_;refine AR [3] ?_
   refine AC (fun K hK=>?_) AZ
   go_simp;go_at_call 19;refine(CN _ B.low).mono ?_;rintro e w8 ⟨rfl,hw⟩;rw[hw];clear hw w8
   go_wp2_with fail
   refine hK.out _ _ kS (fun _=>?_)
   clear hK K;(try simp only[ZZ]);refine tk 4 (.bool false) rfl (qiob (.tmp 40) (.tmp 42) rfl kr k.du now kr kr hdu) kS ?_;refine m1f ?_
   go_wp2_with ((with_reducible refine qaa (.slice 41 (.tmp 44) none (some (.tmp 45)) none) rfl ?_);refine qh6b rfl (.tmp 44) (.tmp 45) rfl fa nk fcap j rfl rfl HJ.out HFC.out ?_)
   go_loopw [48] (fun i W1=>∃q:Nat,q<=j/\i=I Z (q:Int)/\Rb W W1 [(b11,ob 52 (fc k)),(bm,o9),(b7,ob 39 (tc f g h (.slice sa nm kc)))]/\Cp W1 (fun _=>False) (.slice sa nm kc) ms (.slice fa nk fcap) ks) (fun i _=>j-(intOf i).toNat)
   case atStart=>exact⟨0,Nat.zero_le _,rfl,B,C⟩
   case round=>
    clear B C
    obtain⟨q,hq,rfl,B,C⟩:=hrel
    by_cases hlq:q<j
    ·(have hqn:(q:Int)<(j:Int):=by omega);(have hql:q<(ks.take j).length:=by rw[HJL.out];exact hlq);have HM2:=qha hlq;have hqw:=qhl (p:=q) (by have:=HK48.out;have:=HJ.out;omega)
     obtain⟨x,hx⟩:∃x,(ks.take j)[q]=x:=⟨_,rfl⟩
     have hne:=HAp.out x (hx▸List.getElem_mem hql);have rx:=(C.flows.take j HJ.out).at q hql hx;(have hix:=fun w2=>(C.flows.take j HJ.out).index q hql w2);clear hx hql
     cases h1:(flM x==flM k) with
     | false=>
      clear hne
      go_wp2_with (first|((with_reducible refine gL 52 50 ?_);refine m50 ?_)|((with_reducible refine gA 52 ?_);refine m1q ?_;clear B C rx;intro b13 w9 HM13 HE13 B C)|((with_reducible refine gS 52 13 51 ?_);refine m5p ?_;clear B C;intro w9 B C)|((with_reducible refine gL 50 52 ?_);refine m48 ?_)|((with_reducible refine gL 50 54 ?_);refine m49 ?_)|((with_reducible refine qaa (.binOp .eql 50 (.tmp 53) (.tmp 55) 50) rfl ?_);refine m4m ?_))
      exact sZtTpGo1
     | true=>
      cases h2:(x.rem==k.rem) with
      | false=>
       clear hne
       go_wp2_with (first|((with_reducible refine gL 52 50 ?_);refine m50 ?_)|((with_reducible refine gA 52 ?_);refine m1q ?_;clear B C rx;intro b13 w9 HM13 HE13 B C)|((with_reducible refine gS 52 13 51 ?_);refine m5p ?_;clear B C;intro w9 B C)|((with_reducible refine gL 50 52 ?_);refine m48 ?_)|((with_reducible refine gL 50 54 ?_);refine m49 ?_)|((with_reducible refine qaa (.binOp .eql 50 (.tmp 53) (.tmp 55) 50) rfl ?_);refine m4m ?_)|((with_reducible refine gL 3 58 ?_);refine fx (B.row 0 rfl) (.tmp 58) 5 (x.rem) ?_)|((with_reducible refine gL 3 60 ?_);refine fx (B.row 1 rfl) (.tmp 60) 5 (k.rem) ?_))
       exact sZtTpGo1
      | true=>
       have h3:(x.rp==k.rp)=false:=by
        cases h4:(x.rp==k.rp) with
        | false=>rfl
        | true=>exact absurd ⟨by simpa using h1,by simpa using h2,by simpa using h4⟩ hne
       clear hne
       go_wp2_with (first|((with_reducible refine gL 52 50 ?_);refine m50 ?_)|((with_reducible refine gA 52 ?_);refine m1q ?_;clear B C rx;intro b13 w9 HM13 HE13 B C)|((with_reducible refine gS 52 13 51 ?_);refine m5p ?_;clear B C;intro w9 B C)|((with_reducible refine gL 50 52 ?_);refine m48 ?_)|((with_reducible refine gL 50 54 ?_);refine m49 ?_)|((with_reducible refine qaa (.binOp .eql 50 (.tmp 53) (.tmp 55) 50) rfl ?_);refine m4m ?_)|((with_reducible refine gL 3 58 ?_);refine fx (B.row 0 rfl) (.tmp 58) 5 (x.rem) ?_)|((with_reducible refine gL 3 60 ?_);refine fx (B.row 1 rfl) (.tmp 60) 5 (k.rem) ?_)|((with_reducible refine gL 3 65 ?_);refine fx (B.row 0 rfl) (.tmp 65) 6 (x.rp) ?_)|((with_reducible refine gL 3 67 ?_);refine fx (B.row 1 rfl) (.tmp 67) 6 (k.rp) ?_))
       exact sZtTpGo1
    ·(have hqn:¬(q:Int)<(j:Int):=by omega);clear hq hlq
     go_wp2_with fail
     go_roundw
     case rel=>first|exact⟨j+1,_,n+1,addU L (flM k),HJ1.out,by go_num,B.less,C,hU,HN1.out,HL9.out⟩|((repeat apply Exists.intro);exact⟨⟨j+1,_,n+1,addU L (flM k),HJ1.out,by go_num,B.less,C,hU,HN1.out,HL9.out⟩,rfl⟩)|((repeat apply Exists.intro);exact⟨⟨j+1,_,n+1,addU L (flM k),HJ1.out,by go_num,B.less,C,hU,HN1.out,HL9.out⟩,rfl,rfl⟩)
     case measure=>first|exact HM.out|(rw[hjw];exact HM.out)
  ·(have hjn:¬(j:Int)<(nk:Int):=by omega);have e:ks.take j=ks:=List.take_of_length_le (by have:=HNK.out;omega)
   have HL1:Hid (∀m,m∈L↔m∈ms.drop 0):=hidN (fun m=>by
    rw[hL,e]
    exact⟨fun⟨k,hk,e⟩=>e▸HMEM.out k hk,fun hm=>HUSED.out m hm⟩)
   have c29:World.cell? _ ⟨b7,29,none⟩=some (.slice sa nm kc):=((B.row 1 rfl).cell 29).trans (qdw _ _ _ _);clear hj hlj hn hL e
   go_wp2_with fail
   clear c29
   go_loopw [76] (fun i W1=>∃(q:Nat) (ow:Obj) (L:List Mp),q<=nm/\i=I Z (q:Int)/\Rb W W1 [(bm,ow),(b7,ob 39 (tc f g h (.slice sa nm kc)))]/\Cp W1 (fun _=>False) (.slice sa nm kc) ms (.slice fa nk fcap) ks/\UsO ow n L/\∀m,m∈L↔m∈ms.drop q) (fun i _=>nm-(intOf i).toNat)
   case atStart=>exact⟨0,_,L,Nat.zero_le _,rfl,B,C,hU,HL1.out⟩
   case round=>
    clear B C hU HL1
    obtain⟨q,ow2,L2,hq,rfl,B,C,hU,hL⟩:=hrel
    by_cases hlq:q<nm
    ·(have hqn:(q:Int)<(nm:Int):=by omega);(have hql:q<ms.length:=by have:=HNM.out;omega);have HM2:=qha hlq;have hqw:=qhl (p:=q) (by have:=HML.out;omega)
     obtain⟨m,hm⟩:∃m,ms[q]=m:=⟨_,rfl⟩
     have hmm:m∈ms:=hm▸List.getElem_mem hql;have HOk:Hid (okG m):=hidN (HOKS.out m hmm);have hd:=qi5b hql hm;have HIn:Hid (m∈L2):=hidN ((hL m).2 (by rw[hd];simp));(have hnd2:L2.Nodup:=by obtain⟨D,_,_,_,h4,_⟩:=hU _ _ (B.obj 0 rfl);exact h4)
     have HL9:Hid (∀x,x∈L2.erase m↔x∈ms.drop (q+1)):=hidN (fun x=>by
      have hn1:(ms.drop q).Nodup:=HND.out.sublist (List.drop_sublist q ms)
      rw[hd,List.nodup_cons] at hn1
      rw[hnd2.mem_erase_iff,hL,hd,List.mem_cons]
      constructor
      ·rintro⟨h1,h2|h2⟩
       ·exact absurd h2 h1
       ·exact h2
      ·intro h1
       exact⟨fun e=>hn1.1 (e▸h1),.inr h1⟩)
     have rx:=C.maps.at q hql hm;(have hix:=fun w2=>qrs C.maps q hql w2);have HQ1:Hid (q+1<=nm):=hidN hlq;clear hq hlq hm hmm hd hnd2 hL hql
     go_wp2_with (first|((with_reducible refine gL 50 78 ?_);refine wpList_load_mid rfl 50 (.tmp 78) rfl _ _ rfl (mcl m) _ rx underlying50 rfl (qby _) ?_;rw[qc2])|((with_reducible refine gA 50 ?_);refine ax 15 50 qci ?_;intro b15 w9 l9 R9 h9;refine m3a ?_;intro HM15 HE15;replace B:=B.alloc (o:=ob 50 (mc noM)) l9 R9 h9;replace C:=C.below h9;clear R9 h9 l9 rx)|((with_reducible refine gS 50 15 79 ?_);refine sx 50 (.tmp 15) _ (mc m) (B.row 0 rfl) ?_;intro w9 R9 t9;replace B:=B.turn 0 rfl R9 t9;replace C:=C.turn t9 HM15.out HE15.out;clear R9 t9)|((with_reducible refine gL 50 15 ?_);refine lx 50 (.tmp 15) (mc m) (B.row 0 rfl) ?_)|((with_reducible refine qaa (.lookup 48 (.tmp 80) (.tmp 81) false) rfl ?_);refine qh2b rfl (.tmp 80) (.tmp 81) rfl rfl m rfl HOk.out (hU _ _ (B.obj 1 rfl)) HIn.out ?_)|((with_reducible refine qaa (.call { callee:=.builtin .delete,args:=#[.tmp 84,.tmp 85],argTypes:=#[48,50] }) rfl ?_);refine qh9b rfl (.tmp 84) (.tmp 85) rfl rfl m rfl HOk.out (hU _ _ (B.obj 1 rfl)) HIn.out ?_;intro w9 hU9 t9;obtain⟨o9,R9,hU8⟩:=hU9.obj;replace B:=B.turn 1 rfl R9 t9;replace C:=C.turn t9 HMm.out HEm.out;clear hU hU9 R9 t9;have hU:=hU8;clear hU8))
     go_roundw
     case rel=>first|exact⟨q+1,_,_,HQ1.out,by go_num,B.less,C,hU,HL9.out⟩|((repeat apply Exists.intro);exact⟨⟨q+1,_,_,HQ1.out,by go_num,B.less,C,hU,HL9.out⟩,rfl⟩)|((repeat apply Exists.intro);exact⟨⟨q+1,_,_,HQ1.out,by go_num,B.less,C,hU,HL9.out⟩,rfl,rfl⟩)
     case measure=>first|exact HM2.out|(rw[hqw];exact HM2.out)
    ·(have hqn:¬(q:Int)<(nm:Int):=by omega)
     have HL0:Hid ((L2.length:Int)=0):=hidN (by
      have e:L2=[]:=List.eq_nil_iff_forall_not_mem.2 (fun x hx=>by
       have:=(hL x).1 hx
       rw[List.drop_of_length_le (by have:=HNM.out;omega)] at this
       simp at this)
      rw[e];rfl)
     clear hq hlq hL
     go_wp2_with ((with_reducible refine qaa (.call { callee:=.builtin .len,args:=#[.tmp 87],argTypes:=#[48] }) rfl ?_);refine qicb rfl (.tmp 87) rfl rfl (hU _ _ (B.obj 0 rfl)) ?_;rw[HL0.out])
     go_ret
     exact⟨rfl,B.low⟩
theorem qi0b(loose:Bool):Look loose 24 #[] (fun _ G _=>∀c,¬G c):=by
 refine⟨fun args w=>by kernel_rfl,fun h _ _=>h,fun h c hc=>absurd hc (h c),?_⟩
 intro l a W b F G hl _ hN _ _ _ hG
 have hinv:=(qjr loose l om).act om a;refine(qivb a _ _ hinv.ci F b W hN).mono ?_;rintro e w' ⟨he,hb⟩
 exact⟨he,G,hG,Gr.of_below hb,fun c hc=>.inl hc⟩
theorem topGood_walk(a0:Bool)(sl:Value)(es:List Ac)(W:World)(hS:AcIn W sl es)(hT:Tab W):Calls prog 4 #[.bool a0,sl] W fun e w'=>e=.returned (.bool true)/\Below W.heap.size W w':=by
 have CP:=qjp (G0:=fun _=>False) (qi0b a0) sl es W hS.1 hS.2 hT id (fun _ h=>h) (fun _ h=>h);obtain⟨x0,cap,hsl⟩:=hS.1.slice
 generalize es.length=n at *
 subst hsl
 clear hS
 go_enter func4,ntmps4
 go_wp2_with (go_at_call 23;go_fit CP;rintro e w1 ⟨b,rfl,F,G,hP⟩;clear CP;have hB:=hP.gr.below (B:=W.heap.size) (fun _ h=>h.elim) (Nat.le_refl _);clear hP)
 go_ret
 exact⟨rfl,hB⟩
end Go.Proofs.YtonnjgmognbnbaaGreatDoor
