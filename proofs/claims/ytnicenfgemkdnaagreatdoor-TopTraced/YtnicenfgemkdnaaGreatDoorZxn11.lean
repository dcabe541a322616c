/-
  Of what a law stands on.
-/
import Derived.Test.YtnicenfgemkdnaaGreatDoorZxn10
set_option linter.unusedSimpArgs false
set_option linter.unusedVariables false
namespace Go.Proofs.YtnicenfgemkdnaaGreatDoor
open _root_.Go.Proofs.Tryz
set_option maxHeartbeats 16000000
set_option maxRecDepth 100000
open Go.ChangeShapes Go.WideShapes Go.ChangeAt Go.RowKit Go.Maps
attribute [local irreducible] Rp.cells tc pc
theorem sZxn111{p:Prop}(h:p:=by
 first
  | exact⟨j+1,_,by omega,by go_num,T9⟩
  | ((repeat apply Exists.intro);exact⟨⟨j+1,_,by omega,by go_num,T9⟩,rfl⟩)):p:=h
theorem q6t{w:World}{b:Nat}{s:Nt}{F:Nat->Prop}(h:qaw w b s (duF s.fs) F)(n:Int)(hwn:(Lit.int .i64 n).wf=true)(hT:Tab w)(h0:¬F 0)(hnow:0<=s.now/\s.now<=549755813888)(hlf:s.left<=4)(hlg:s.logged<=100000)(G:qbq s.f s.h s.ms)(hm:∀x∈s.fs,flM x.2∈s.ms)(hfew:s.fs.length<=64):Calls prog 71 #[.pointer (some ⟨b,0,none⟩),.int .i64 n] w fun e w'=>e=.returned (.agg (s.tick n).1.cells)/\∃F',qaw w' b (s.tick n).2 (duF (s.tick n).2.fs) F'/\Gr F w w'/\∀c,F' c->F c\/w.heap.size<=c:=by
 have N:=h.start
 have CN:=fun W F (s:Nt) (hN:qaw W b s (duF s.fs) F)=>qda hN
 unfold Nt.tick
 by_cases hbad:n<1\/549755813888-s.now<n
 ·rw[if_pos hbad]
  have CF:=fun w=>qdj 2 w
  rw[←qdo] at CF
  have hw1:wrap64 (549755813888-s.now)=549755813888-s.now:=by unfold wrap64;omega
  by_cases h1:n<1
  ·clear hwn hT h0 hnow hlf hlg G hm hfew hbad
   go_enter func71,ntmps71
   go_wp2_with (first|((with_reducible refine gA 30 ?_);refine ax 4 30 qan ?_;intro b4 w9 l9 R9 h9;replace N:=N.alloc (o:=ob 30 ((qas 0).cells)) l9 R9 h9;clear R9 h9 l9)|(go_at_call 68;go_fit (CF _);rintro e w5 ⟨rfl,hb5⟩;replace N:=N.below hb5;clear hb5)|((with_reducible refine gS 30 4 20 ?_);refine sx 30 (.tmp 4) _ ((qas 2).cells) (N.row 0 rfl) ?_;intro w9 R9 t9;replace N:=N.turn 0 rfl R9 t9;clear R9 t9))
   ((try simp only[Exit.inBlock,Exit.then]);refine bodyPost_ret (qai (p:=4) rfl _ _ _ _ rfl (N.row 0 rfl) _ underlying30 rfl (qad _)) rfl ⟨rfl,_,N.nat,N.gr,N.sub⟩)
  ·have h2:549755813888-s.now<n:=by omega
   clear hwn hT h0 hnow hlf hlg G hm hfew hbad
   go_enter func71,ntmps71
   go_wp2_with (first|((with_reducible refine gA 30 ?_);refine ax 4 30 qan ?_;intro b4 w9 l9 R9 h9;replace N:=N.alloc (o:=ob 30 ((qas 0).cells)) l9 R9 h9;clear R9 h9 l9)|(go_at_call 22;go_fit (CN _ _ _ N.nat);rintro e w5 ⟨rfl,hw⟩;rw[hw];clear hw w5)|(go_at_call 68;go_fit (CF _);rintro e w5 ⟨rfl,hb5⟩;replace N:=N.below hb5;clear hb5)|((with_reducible refine gS 30 4 20 ?_);refine sx 30 (.tmp 4) _ ((qas 2).cells) (N.row 0 rfl) ?_;intro w9 R9 t9;replace N:=N.turn 0 rfl R9 t9;clear R9 t9))
   ((try simp only[Exit.inBlock,Exit.then]);refine bodyPost_ret (qai (p:=4) rfl _ _ _ _ rfl (N.row 0 rfl) _ underlying30 rfl (qad _)) rfl ⟨rfl,_,N.nat,N.gr,N.sub⟩)
 ·rw[if_neg hbad]
  have h1:¬n<1:=fun h=>hbad (.inl h)
  have h2:¬549755813888-s.now<n:=fun h=>hbad (.inr h)
  have hw1:wrap64 (549755813888-s.now)=549755813888-s.now:=by unfold wrap64;omega
  have hwl:wrap64 ((s.left:Int)+n)=(s.left:Int)+n:=by unfold wrap64;omega
  have hwn:wrap64 (s.now+n)=s.now+n:=by unfold wrap64;omega
  have HWK:Hid (IntKind.i64.wrap (s.now+n)=s.now+n):=hidN (by rw[IntKind.wrap_i64];omega)
  have HV:Hid (min ((s.left:Int)+n) 4=((min (s.left+n.toNat) 4:Nat):Int)):=hidN om
  have c2:=h.cellLeft
  have hup:s.fs.Pairwise (fun x y=>x.1<y.1):=by obtain⟨cs,v,ov,fm,D,Fw,cnt,M,hF⟩:=h;exact M.up
  have CA:=fun W F (hN:qaw W b { s with left:=min (s.left+n.toNat) 4 } (duF s.fs) F)=>q7s hN (s.now+n) (by show s.now<=_;omega) om
  have hok:=qr7 G hup hm (s.now+n)
  have hld:=q7x hup (s.now+n)
  obtain⟨s1,HS1⟩:∃s1:Nt,s1={ s with left:=min (s.left+n.toNat) 4,now:=s.now+n }:=⟨_,rfl⟩
  have hok1:TkOk s1 (s.dueL (s.now+n)):=by rw[HS1];exact⟨hok.good,hok.up,hok.nd,hok.there,hok.mem⟩
  have HFO:Hid (∀j,j<=(s.dueL (s.now+n)).length->qiw s1 ((s.dueL (s.now+n)).take j) ((s.dueL (s.now+n)).drop j)):=hidN (qng hok1)
  have hfin:=HFO.out _ (Nat.le_refl _)
  rw[List.take_length] at hfin
  have HL1:Hid (s1.fs.length=s.fs.length):=hidN (by rw[HS1])
  have hdl:(s.dueL (s.now+n)).length<=s.fs.length:=by have:=hfin.len;have:=HL1.out;omega
  change ∀W F,qaw W b { s with left:=min (s.left+n.toNat) 4 } (duF s.fs) F->Calls prog 106 _ W (fun e w'=>∃sa c F' cnt',e=.returned (.tuple #[.slice sa (s.dueL (s.now+n)).length c,.int .i64 0])/\Own w' (.slice sa (s.dueL (s.now+n)).length c) (s.dueL (s.now+n))/\NatC w' b { s with left:=min (s.left+n.toNat) 4,now:=s.now+n } (qiv (s.now+n) (duF s.fs)) F' cnt'/\cnt'+(s.dueL (s.now+n)).length<=s.fs.length/\Gr F W w'/\(∀c,F' c->F c\/W.heap.size<=c)/\(∀k,(Value.slice sa (s.dueL (s.now+n)).length c).ownBlock=some k->¬F' k/\W.heap.size<=k)) at CA
  rw[←HS1] at CA
  have hfs1:s1.fs=s.fs:=by rw[HS1]
  have hfd:=hfin.fs
  rw[hfs1,] at hfd
  have hrest:=hfin.rest
  have hes:=hfin.es
  show Calls prog 71 _ w fun e w'=>e=.returned (.agg (Rp.cells ⟨0,ByteArray.empty,false,((qbu { s with left:=min (s.left+n.toNat) 4,now:=s.now+n } (s.dueL (s.now+n))).2.log (qbu { s with left:=min (s.left+n.toNat) 4,now:=s.now+n } (s.dueL (s.now+n))).1).1⟩))/\∃F',qaw w' b ((qbu { s with left:=min (s.left+n.toNat) 4,now:=s.now+n } (s.dueL (s.now+n))).2.log (qbu { s with left:=min (s.left+n.toNat) 4,now:=s.now+n } (s.dueL (s.now+n))).1).2 (duF ((qbu { s with left:=min (s.left+n.toNat) 4,now:=s.now+n } (s.dueL (s.now+n))).2.log (qbu { s with left:=min (s.left+n.toNat) 4,now:=s.now+n } (s.dueL (s.now+n))).1).2.fs) F'/\Gr F w w'/\∀c,F' c->F c\/w.heap.size<=c
  rw[←HS1]
  rw[←hfd] at hld
  generalize s.dueL (s.now+n)=l at *
  obtain⟨N9,hN9e⟩:∃N9,N9=l.length:=⟨_,rfl⟩
  have HN9:Hid (N9=l.length):=hN9e
  have HNB:Hid (N9<=64):=hidN om
  generalize htm:qiv (s.now+n) (duF s.fs)=tm9 at *
  obtain⟨re,rs,HRE⟩:∃re rs,qbu s1 l=(re,rs):=⟨_,_,rfl⟩
  have HR:Hid (qbu s1 l=(re,rs)):=HRE
  rw[HRE] at hld hrest hes ⊢
  simp only at hld hrest hes ⊢
  have hlg2:rs.logged<=100000:=by rw[hrest.2.2.1,HS1];exact hlg
  have CG:=fun W F (hN:qaw W b rs tm9 F) (hT:Tab W) sl hE=>qxx hN hT sl re hE om hlg2
  have HE9:Hid (re.length<=3518437208780):=hidN om
  have hlfs:(rs.log re).2.fs=rs.fs:=by unfold Nt.log;split<;>rfl
  have HTM:Hid (tm9=duF (rs.log re).2.fs):=hidN (by rw[hlfs];exact hld)
  generalize rs.log re=lgg at *
  obtain⟨lg1,lg2⟩:=lgg
  simp only at *
  rw[←hN9e] at CA
  clear hbad hnow hlf hlg G hm hfew hok hld hok1 hfin hdl hfs1 hfd hrest hes HRE hlg2 hlfs htm hup h hN9e
  go_enter func71,ntmps71
  go_upto_region 4 with(first|((with_reducible refine gA 30 ?_);refine ax 4 30 qan ?_;intro b4 w9 l9 R9 h9;replace N:=N.alloc (o:=ob 30 ((qas 0).cells)) l9 R9 h9;clear R9 h9 l9;clear c2;have c2:=N.nat.cellLeft)|(go_at_call 22;go_fit (CN _ _ _ N.nat);rintro e w5 ⟨rfl,hw⟩;rw[hw];clear hw w5)|((with_reducible refine qaa (.call { callee:=.builtin .min,args:=#[.tmp 27,.const (.int .i64 4)],argTypes:=#[3,3] }) rfl ?_);refine qpz rfl (.tmp 27) rfl _ rfl ?_)|((with_reducible refine gS 3 30 28 ?_);refine qn2 N rfl (.tmp 30) (.tmp 28) rfl rfl (min (s.left+n.toNat) 4) (by first|exact congrArg (Value.int .i64) HV.out|(rw[hwl];exact congrArg (Value.int .i64) HV.out)) ?_;clear N c2;intro w9 F9 N))
  refine RD (fun _=>True) trivial (fun _=>?_)
  refine tq 0 (.pointer (some ⟨b,0,none⟩)) rfl trivial (tq 1 (.pointer (some ⟨b,0,none⟩)) rfl trivial (tq 2 (.pointer (some ⟨b,37,none⟩)) rfl trivial ?_))
  simp only[ZZ]
  refine tq 3 (.pointer (some ⟨b,0,none⟩)) rfl trivial (tq 5 (.int .i64 n) rfl trivial ?_)
  simp only[ZZ]
  refine AR [4] ?_
  refine AC (fun K hK=>?_) ?_
  ·go_simp
   go_at_call 22;(first|refine(CN _ _ _ N.nat).mono ?_|refine(CN _ _ _ N.drew.nat).mono ?_);rintro e w8 ⟨rfl,hw⟩;rw[hw];clear hw w8
   go_wp2_with fail
   refine hK.out _ _ trivial (fun _=>?_)
   clear hK K
   try simp only[ZZ]
   refine tk 6 (.int .i64 (s.now+n)) rfl (Or.inl ⟨by kernel_rfl,by intro w hS;go_simp;exact HWK.out⟩) trivial ?_
   simp only[ZZ]
   refine AR [7] ?_
   refine AC (fun K hK=>?_) ?_
   ·go_simp
    go_at_call 106;(first|refine(CA _ _ N.nat).mono ?_|refine(CA _ _ N.drew.nat).mono ?_);rintro e w8 ⟨sa,kp,F8,cnt,rfl,ho8,hn8,hc8,hg8,hf8,hk8⟩;(first|replace hg8:=qgn hg8|skip)
    go_wp2_with fail
    refine hK.out _ _ trivial (fun _=>?_)
    clear hK K
    try simp only[ZZ]
    refine tq 8 (.tuple #[.slice sa N9 kp,.int .i64 0]) rfl trivial (tq 9 (.slice sa N9 kp) rfl trivial (tq 10 (.int .i64 0) rfl trivial ?_))
    simp only[ZZ]
    refine tq 11 (.slice sa N9 kp) rfl trivial (tq 12 (.int .i64 0) rfl trivial ?_)
    simp only[ZZ]
    refine AN ?_
    obtain⟨Lx,T,HLX⟩:=N.adv hn8 hg8 hf8 (l:=l) (HN9.out▸ho8) (HN9.out▸hk8)
    clear hg8 hf8 ho8 hk8 hn8 N
    have HLX:Hid _:=hidN HLX
    have HC8:Hid _:=hidN hc8
    clear hc8
    go_wp2_with fail
    go_loopw [7,44] (fun gv i W=>∃(j:Nat) (F8:Nat->Prop),j<=N9/\i=.int .i64 (j:Int)/\Tk w W b (qbu s1 (l.take j)).2 tm9 F F8 cnt ((b4,ob 30 (qas 0).cells)::Lx) gv (qbu s1 (l.take j)).1) (fun _ i _=>N9-(intOf i).toNat)
    case atStart=>exact⟨0,_,Nat.zero_le _,rfl,T⟩
    case round=>
     clear T
     obtain⟨j,F9',hj,rfl,T⟩:=hrel
     by_cases hlt:j<N9
     ·have hjl:j<l.length:=by have:=HN9.out;omega
      have hji:(j:Int)<(N9:Int):=by omega
      have HM:=qha hlt
      have hjw:=qhl (p:=j) (by have:=HNB.out;omega)
      have FO:=HFO.out j om
      rw[List.drop_eq_getElem_cons hjl] at FO
      obtain⟨x,hx,ex⟩:=FO.ok.there l[j] List.mem_cons_self
      obtain⟨g,cur,rfl,hmem,hcur⟩:=HLX.out j hjl
      rw[←ex] at hcur
      have hcx:=((show Row 3 _ g cur from(T.nc.nb.rows _ (List.mem_cons_of_mem _ hmem)).1).cell j).trans hcur
      have hix:=fun w=>ixI g N9 kp j hlt w
      have hst:=qgd s1 (l.take j) l[j]
      rw[←List.take_succ_eq_append_getElem hjl,←ex,show qbu s1 (l.take j)=((qbu s1 (l.take j)).1,(qbu s1 (l.take j)).2) from rfl,qlw _ FO.ok.up hx] at hst
      have FL:=FO.ok.less
      rw[←ex] at FL
      have hmm:=FO.ok.mem x hx
      have hstd:=(FO.ok.good.maps.1 _ hmm).2.2.2.1
      have hcnt:cnt+1<=(qbu s1 (l.take j)).2.fs.length:=by
       have h1:=FO.len
       have h2:=HC8.out
       have h3:=HN9.out
       have h4:=HL1.out
       rw[List.length_take_of_le om] at h1
       omega
      have HEL:Hid ((qbu s1 (l.take j)).1.length<=5000000000):=hidN (by have:=FO.es;have:=HNB.out;rw[List.length_take_of_le om] at *;omega)
      generalize(qbu s1 (l.take j)).2=sj at *
      generalize(qbu s1 (l.take j)).1=ej at *
      have CE:=fun W F (hN:NatC W b sj tm9 F cnt)=>q83 hN x hx hcnt
      have CC:=fun W F (hN:NatC W b (sj.less (x.1:Int)) tm9 F cnt)=>qzy hN (flM x.2) FL.good FL.good.wf hmm
      change ∀W F,NatC W b sj tm9 F cnt->Calls prog 107 _ W (fun e w'=>e=.returned (.agg (mc (flM x.2)))/\∃F',NatC w' b (sj.less (x.1:Int)) tm9 F' cnt/\Gr F W w'/\∀c,F' c->F c\/W.heap.size<=c) at CE
      generalize flM x.2=m9 at *
      generalize sj.less (x.1:Int)=sl at *
      have CV:=fun W F (hN:qaw W b (sl.closeU m9).2 tm9 F)=>qtn hN m9 true hstd
      generalize hcl:sl.closeU m9=r at *
      obtain⟨cb,s3⟩:=r
      simp only at CC CV hst
      have hxn:((x.1:Nat):Int)=((x.1:Nat):Int):=rfl
      cases cb with
      | true=>
       rw[if_pos rfl] at hst
       have HST:Hid (qbu s1 (l.take (j+1))=(ej++[evN s3.now m9 true],s3)):=hst
       generalize evN s3.now m9 true=e9 at *
       clear hst hx ex FO FL hmm hcnt hstd hcl hmem hcur hjl hxn
       go_wp2_with (first|(go_at_call 107;go_fit (CE _ _ T.nc.nc);rintro e w5 ⟨rfl,F9,hN9,hg9,hf9⟩;clear CE;replace T:=T.call hN9 hg9 hf9;clear hN9 hg9 hf9)|((with_reducible refine gA 46 ?_);refine ax 10 46 qci ?_;intro b10 w9 l9 R9 h9;replace T:=T.alloc (o:=ob 46 (mc noM)) l9 R9 h9;clear R9 h9 l9)|((with_reducible refine gS 46 10 50 ?_);refine sx 46 (.tmp 10) _ (mc m9) (T.row 0 rfl) ?_;intro w9 R9 t9;replace T:=T.turn 0 rfl R9 t9;clear R9 t9)|((with_reducible refine gL 46 10 ?_);refine lx 46 (.tmp 10) (mc m9) (T.row 0 rfl) ?_)|(go_at_call 108;go_fit (CC _ _ T.nc.nc);rintro e w5 ⟨rfl,F9,hN9,hg9,hf9⟩;clear CC;replace T:=T.call hN9 hg9 hf9;clear hN9 hg9 hf9)|(go_at_call 109;go_fit (CV _ _ T.nc.nc.nat);rintro e w5 ⟨rfl,hb9⟩;clear CV;replace T:=T.below hb9;clear hb9)|((with_reducible refine qaa (.buildSlice 52 1 #[(0,.tmp 57)]) rfl ?_);refine qbj rfl (.tmp 57) rfl e9 rfl ?_;intro b58 w9 l9 R9 h9;replace T:=T.alloc (o:=ob 105 (ec e9)) l9 R9 h9;clear R9 h9 l9)|((with_reducible refine qaa (.call { callee:=.builtin .append,args:=#[.tmp 54,.tmp 58],argTypes:=#[52,52] }) rfl ?_);refine qwb rfl (.tmp 54) (.tmp 58) rfl T.ev (T.row 0 rfl) rfl rfl HEL.out T.nc.gr.size ?_;intro gv9 w9 he9 hg9;replace T:=T.push he9 hg9;clear he9 hg9))
       go_roundw
       case rel=>
        have T9:=(T.tail.tail).cast HST.out
        exact sZxn111
       case measure=>first|exact HM.out|(rw[hjw];exact HM.out)
      | false=>
       rw[if_neg zm] at hst
       have HST:Hid (qbu s1 (l.take (j+1))=(ej,s3)):=hst
       clear hst hx ex FO FL hmm hcnt hstd hcl hmem hcur hjl CV hxn
       go_wp2_with (first|(go_at_call 107;go_fit (CE _ _ T.nc.nc);rintro e w5 ⟨rfl,F9,hN9,hg9,hf9⟩;clear CE;replace T:=T.call hN9 hg9 hf9;clear hN9 hg9 hf9)|((with_reducible refine gA 46 ?_);refine ax 10 46 qci ?_;intro b10 w9 l9 R9 h9;replace T:=T.alloc (o:=ob 46 (mc noM)) l9 R9 h9;clear R9 h9 l9)|((with_reducible refine gS 46 10 50 ?_);refine sx 46 (.tmp 10) _ (mc m9) (T.row 0 rfl) ?_;intro w9 R9 t9;replace T:=T.turn 0 rfl R9 t9;clear R9 t9)|((with_reducible refine gL 46 10 ?_);refine lx 46 (.tmp 10) (mc m9) (T.row 0 rfl) ?_)|(go_at_call 108;go_fit (CC _ _ T.nc.nc);rintro e w5 ⟨rfl,F9,hN9,hg9,hf9⟩;clear CC;replace T:=T.call hN9 hg9 hf9;clear hN9 hg9 hf9))
       go_roundw
       case rel=>
        have T9:=(T.tail).cast HST.out
        exact sZxn111
       case measure=>first|exact HM.out|(rw[hjw];exact HM.out)
     ·have hji:¬(j:Int)<(N9:Int):=by omega
      obtain rfl:j=N9:=by omega
      have e:l.take j=l:=List.take_of_length_le (by have:=HN9.out;omega)
      rw[e] at T
      rw[HR.out] at T
      simp only at T
      clear e hj hlt
      go_wp2_with (first|(go_at_call 110;go_fit (CG _ _ T.nc.nc.nat (hT.gr T.nc.gr h0) _ (T.ev.at HE9.out));rintro e w5 ⟨rfl,F9,hN9,hg9,hf9⟩;clear CG;replace N:=T.nc.nb.call hN9 hg9 hf9;clear hN9 hg9 hf9 T)|((with_reducible refine qaa (.build 30 #[(0,.tmp 61),(3,.tmp 64)]) rfl ?_);refine qwk (.tmp 61) (.tmp 64) rfl rfl 0 lg1 rfl rfl ?_)|((with_reducible refine gS 30 4 65 ?_);refine sx 30 (.tmp 4) _ (Rp.cells ⟨0,ByteArray.empty,false,lg1⟩) (N.row 0 rfl) ?_;intro w9 R9 t9;replace N:=N.turn 0 rfl R9 t9;clear R9 t9))
      ((try simp only[Exit.inBlock,Exit.then]);refine bodyPost_ret (qai (p:=4) rfl _ _ _ _ rfl (N.row 0 rfl) _ underlying30 rfl (qad _)) rfl ⟨rfl,_,HTM.out▸N.nat,N.gr,N.sub⟩)
   exact AZ
  exact AZ
end Go.Proofs.YtnicenfgemkdnaaGreatDoor
namespace Go.Proofs.YtnicenfgemkdnaaGreatDoor
open _root_.Go.Proofs.Tryz
set_option maxHeartbeats 16000000
set_option maxRecDepth 100000
open Go.ChangeShapes Go.WideShapes Go.ChangeAt Go.RowKit Go.Maps
theorem qk3{f:Nat->Int}{g:Nat->Bool}{h:Nat->Int}{ms:List Mp}{p s i d:Int}(he:(qba f g h ms p s i d).e=0):qbq (qba f g h ms p s i d).f (qba f g h ms p s i d).h (qba f g h ms p s i d).ms/\(qba f g h ms p s i d).m∈(qba f g h ms p s i d).ms/\∀m∈ms,m∈(qba f g h ms p s i d).ms:=by
 by_cases hP:qjy f h ms p s i
 rotate_left
 ·have ho:qba f g h ms p s i d=⟨2,f,h,ms,noM,false⟩:=by unfold qba;rw[if_neg hP]
  rw[ho] at he;simp at he
 have G:=hP.1
 cases hf:ms.find? (inS p s i) with
 | some m=>
  have ho:qba f g h ms p s i d=⟨0,f,h,ms,m,false⟩:=by unfold qba;rw[if_pos hP,hf]
  rw[ho]
  exact⟨G,List.mem_of_find?_eq_some hf,fun _ h=>h⟩
 | none=>
  by_cases hc:cntM ms s=12
  ·have ho:qba f g h ms p s i d=⟨6,f,h,ms,noM,false⟩:=by unfold qba;rw[if_pos hP,hf];simp only;rw[if_pos hc]
   rw[ho] at he;simp at he
  ·by_cases hr:(qbe f g h ms p s d).e=0
   rotate_left
   ·have ho:qba f g h ms p s i d=⟨(qbe f g h ms p s d).e,f,h,ms,noM,false⟩:=by unfold qba;rw[if_pos hP,hf];simp only;rw[if_neg hc,if_pos hr]
    rw[ho] at he;exact absurd he hr
   ·have ho:qba f g h ms p s i d=⟨0,(qbe f g h ms p s d).f,(qbe f g h ms p s d).h,ms++[(p,s,i,(qbe f g h ms p s d).h s.toNat-1,(qbe f g h ms p s d).q)],(p,s,i,(qbe f g h ms p s d).h s.toNat-1,(qbe f g h ms p s d).q),(qbe f g h ms p s d).took⟩:=by unfold qba;rw[if_pos hP,hf];simp only;rw[if_neg hc,if_neg (fun h=>h hr)]
    have hany:ms.any (inS p s i)=false:=by rw[←List.isSome_find?,hf];rfl
    obtain⟨hG,-,-⟩:=qya (g:=g) (d:=d) G hP.2.1 hP.2.2.1 ⟨hP.2.2.2.1,hP.2.2.2.2⟩ hany hc hr
    rw[ho]
    exact⟨hG,by simp,fun m hm=>by simp[hm]⟩
theorem qy7(f:Nat->Int)(g:Nat->Bool)(h:Nat->Int)(ms:List Mp)(p s i d:Int):qqz (qba f g h ms p s i d):=fun he=>by
 obtain⟨G,hm,-⟩:=qk3 he
 have hs:=G.maps.1 _ hm
 exact⟨fun m hm=>(G.maps.1 m hm).2.1,hs.2.2.2.2.1,hs.2.2.2.1⟩
section
variable {w0 W W':World} {b:Nat} {cs:Array Value} {v ov:Value} {fm:Option Nat} {D:DataW Unit} {Fw F0:Nat->Prop} {cnt:Nat} {s:Nt} {tm:Int->Option Int} {is:List Int} {L:List (Nat×Obj)}
theorem qgr(f:Nat->Int)(g:Nat->Bool):(pc f g).toList.length=21:=by simp[qf1]
theorem Nm.pool(h:Nm w0 W b cs v ov fm D Fw cnt s tm is F0 L)(g':Nat->Bool)(R:Row 91 W' b (qc8 cs 4 (pc s.f g').toList))(T:qbl b W W'):Nm w0 W' b (qc8 cs 4 (pc s.f g').toList) v ov fm D Fw cnt { s with g:=g' } tm is F0 L:=by
 have:=h.tableO s.f g' s.h v s.ms (pc s.f g').toList (by rw[qgr];omega) R T (fun k hk=>?_) h.m.maps h.m.nil (fun h0=>.inl ⟨rfl,h0⟩) (fun h0 y hy e=>(h.k.rows y hy).2.2 (.inr (.inr (.inr ⟨h0,e⟩))))
 ·exact this
 ·rw[←qr1 s.f s.f s.g g' s.h v]
  by_cases hk2:k<21
  ·rw[qj4 _ _ _ _ (by rw[qgr];exact hk2) (by rw[qgr,h.m.size];omega)]
   have:=qj4 (pc s.f g').toList 0 (tc s.f s.g s.h v) k (by rw[qgr];exact hk2) (by rw[qgr,qcr];omega)
   rw[Nat.zero_add] at this
   exact this.symm
  ·rw[qir _ _ _ _ (by rw[qgr];omega),qir _ _ _ _ (by rw[qgr];omega)]
   exact h.m.ct k hk
theorem NatM.poolRange(h:NatM W b cs v ov fm D Fw cnt s tm is):W.rangeAt b 4 (pc s.f s.g).toList:=fun j u hu=>by
 have hj:j<21:=by have:=(List.getElem?_eq_some_iff.1 hu).1;simpa[qf1] using this
 rw[h.cell,h.ct j om,←hu]
 have:=qj4 (pc s.f s.g).toList 0 (tc s.f s.g s.h v) j (by rw[qgr];exact hj) (by rw[qgr,qcr];omega)
 rw[Nat.zero_add,qr1] at this
 exact this
end
theorem qty(f:Nat->Int)(g:Nat->Bool):(prog.info? 35).map (·.size)=some (pc f g).toList.length:=by rw[qgr];kernel_rfl
theorem qms{ops:Array Oper}{rest:List Oper}{o:Oper}{a:Act}{w:World}{Q:Exit->Act->World->Prop}(hgd:o.guard=none)(x y:Operand)(ho:o.op=.store 35 x y)(b:Nat)(cs:Array Value)(R:Row 91 w b cs)(hsz:cs.size=487)(hx:a.eval x=.pointer (some ⟨b,4,none⟩))(f:Nat->Int)(g:Nat->Bool)(hy:a.eval y=.agg (pc f g))(hr:∀w',Row 91 w' b (qc8 cs 4 (pc f g).toList)->qbl b w w'->wpList prog ops Q rest (a.put o.dst undef) w'):wpList prog ops Q (o::rest) a w:=by
 have ht:w.there b 4 (pc f g).size:=fun j hj=>by
  have hj':j<21:=by rw[qf1] at hj;exact hj
  refine⟨?_,R.free _⟩
  rw[R.cell,Array.getElem?_eq_getElem (by rw[hsz];omega)];rfl
 refine wpList_store_mid hgd 35 x y ho b 4 _ hx hy ht (qfg _ _) (qoq _ _) ?_
 exact hr _ (Row.setAll _ 4 w _ R) (qi4 b _ 4 w)
theorem qp3{ops:Array Oper}{rest:List Oper}{o:Oper}{a:Act}{w:World}{Q:Exit->Act->World->Prop}(x:Operand)(hgd:o.guard=none)(ho:o.op=.build 30 #[(0,x)])(c:Int)(hx:a.eval x=.int .i64 c)(hr:wpList prog ops Q rest (a.put o.dst (.agg (qas c).cells)) w):wpList prog ops Q (o::rest) a w:=
 wpList_plain hgd fun K hK=>by
  rw[qdo] at hr
  unfold Oper.wp execOp
  simp only[ho,List.map_toArray,List.map_nil,List.map_cons,hx,Sem.run_bind,qp0,Result.andThen_ok,Sem.run_pure]
  exact hK _ _ hr
attribute [local irreducible] Rp.cells tc pc in
theorem quh{w:World}{b:Nat}{s:Nt}{tm:Int->Option Int}{F:Nat->Prop}(h:qaw w b s tm F)(a:Int):Calls prog 72 #[.pointer (some ⟨b,0,none⟩),.func (.func 73) #[] #[],.int .i64 a] w fun e w'=>e=.returned (.agg (s.drain a true).1.cells)/\∃F',qaw w' b (s.drain a true).2 tm F'/\Gr F w w'/\∀c,F' c->F c\/w.heap.size<=c:=by
 obtain⟨cs,v,ov,fm,D,Fw0,cnt,M,hF⟩:=h
 have N:=Nm.start M hF
 have CD:=fun w=>q2r s.f s.g a w
 unfold qd5 plv at CD
 unfold Nt.drain
 generalize qg3 s.g a true=g9 at *
 generalize qfu s.g a true=e9 at *
 clear M hF
 generalize(fun c=>Fw0 c/\c<w.heap.size)=Fw at *
 go_enter func72,ntmps72
 go_wp2_with (first|((with_reducible refine gA 30 ?_);refine ax 6 30 qan ?_;intro b6 w9 l9 R9 h9;replace N:=N.alloc (o:=ob 30 (qas 0).cells) l9 R9 h9;clear R9 h9 l9)|((with_reducible refine gL 35 14 ?_);refine wpList_load_mid rfl 35 (.tmp 14) rfl b 4 rfl (pc s.f s.g).toList _ N.m.poolRange underlying35 rfl (qty _ _) ?_;(try simp only[Array.toArray_toList]))|(go_at_call 73;go_fit (CD _);rintro e w5 ⟨rfl,hb5⟩;replace N:=N.below hb5;clear hb5 CD)|((with_reducible refine gS 35 22 18 ?_);refine qms rfl (.tmp 22) (.tmp 18) rfl b cs N.m.row N.m.size rfl s.f g9 rfl ?_;intro w9 R9 t9;replace N:=N.pool g9 R9 t9;clear R9 t9)|((with_reducible refine qaa (.build 30 #[(0,.tmp 23)]) rfl ?_);refine qp3 (.tmp 23) rfl rfl e9 rfl ?_)|((with_reducible refine gS 30 6 24 ?_);refine sx 30 (.tmp 6) _ ((qas e9).cells) (N.row 0 rfl) ?_;intro w9 R9 t9;replace N:=N.turn 0 rfl R9 t9;clear R9 t9))
 ((try simp only[Exit.inBlock,Exit.then]);refine bodyPost_ret (qai (p:=6) rfl _ _ _ _ rfl (N.row 0 rfl) _ underlying30 rfl (qad _)) rfl ⟨rfl,_,N.nb.nat,N.nb.gr,N.nb.sub⟩)
attribute [local irreducible] Rp.cells tc pc in
theorem qso{w:World}{b:Nat}{s:Nt}{tm:Int->Option Int}{F:Nat->Prop}(h:qaw w b s tm F)(a:Int):Calls prog 72 #[.pointer (some ⟨b,0,none⟩),.func (.func 74) #[] #[],.int .i64 a] w fun e w'=>e=.returned (.agg (s.drain a false).1.cells)/\∃F',qaw w' b (s.drain a false).2 tm F'/\Gr F w w'/\∀c,F' c->F c\/w.heap.size<=c:=by
 obtain⟨cs,v,ov,fm,D,Fw0,cnt,M,hF⟩:=h
 have N:=Nm.start M hF
 have CD:=fun w=>qxg s.f s.g a w
 unfold qd5 plv at CD
 unfold Nt.drain
 generalize qg3 s.g a false=g9 at *
 generalize qfu s.g a false=e9 at *
 clear M hF
 generalize(fun c=>Fw0 c/\c<w.heap.size)=Fw at *
 go_enter func72,ntmps72
 go_wp2_with (first|((with_reducible refine gA 30 ?_);refine ax 6 30 qan ?_;intro b6 w9 l9 R9 h9;replace N:=N.alloc (o:=ob 30 (qas 0).cells) l9 R9 h9;clear R9 h9 l9)|((with_reducible refine gL 35 14 ?_);refine wpList_load_mid rfl 35 (.tmp 14) rfl b 4 rfl (pc s.f s.g).toList _ N.m.poolRange underlying35 rfl (qty _ _) ?_;(try simp only[Array.toArray_toList]))|(go_at_call 74;go_fit (CD _);rintro e w5 ⟨rfl,hb5⟩;replace N:=N.below hb5;clear hb5 CD)|((with_reducible refine gS 35 22 18 ?_);refine qms rfl (.tmp 22) (.tmp 18) rfl b cs N.m.row N.m.size rfl s.f g9 rfl ?_;intro w9 R9 t9;replace N:=N.pool g9 R9 t9;clear R9 t9)|((with_reducible refine qaa (.build 30 #[(0,.tmp 23)]) rfl ?_);refine qp3 (.tmp 23) rfl rfl e9 rfl ?_)|((with_reducible refine gS 30 6 24 ?_);refine sx 30 (.tmp 6) _ ((qas e9).cells) (N.row 0 rfl) ?_;intro w9 R9 t9;replace N:=N.turn 0 rfl R9 t9;clear R9 t9))
 ((try simp only[Exit.inBlock,Exit.then]);refine bodyPost_ret (qai (p:=6) rfl _ _ _ _ rfl (N.row 0 rfl) _ underlying30 rfl (qad _)) rfl ⟨rfl,_,N.nb.nat,N.nb.gr,N.nb.sub⟩)
structure NOk(s:Nt):Prop where
 good:qbq s.f s.h s.ms
 acts:s.acts<=300
 left:s.left<=4
 logged:s.logged<=64*s.acts
 now:0<=s.now/\s.now<=549755813888
 few:s.fs.length<=48
 began:s.began<=2*s.acts
 rem:∀x∈s.fs,0<=x.2.rem/\x.2.rem<=4294967295
 mem:∀x∈s.fs,flM x.2∈s.ms
theorem NOk.flows{s:Nt}(h:NOk s):∀x∈s.fs,(0<=x.2.rem/\x.2.rem<=4294967295)/\(0<=x.2.a/\x.2.a<3):=fun x hx=>⟨h.rem x hx,(h.good.maps.1 _ (h.mem x hx)).2.2.2.2.1⟩
theorem qpc(b:Nat)(w:World):(binOp .eql 23 (.pointer (some ⟨b,0,none⟩)) (.pointer none)).run prog w=.ok (.bool false) w:=by kernel_rfl
attribute [local irreducible] Rp.cells tc pc in
theorem qos{w:World}{b:Nat}{s:Nt}{F:Nat->Prop}(h:qaw w b s (duF s.fs) F)(hT:Tab w)(h0:¬F 0)(ok:NOk s)(a:Ac)(ha:a.ok):Calls prog 35 #[.pointer (some ⟨b,0,none⟩),.agg (ac a)] w fun e w'=>e=.returned (.agg (s.act a).1.cells)/\∃F',qaw w' b (s.act a).2 (duF (s.act a).2.fs) F'/\Gr F w w'/\∀c,F' c->F c\/w.heap.size<=c:=by
 have N:=h.start
 have c1:=h.cellActs
 have hq:=fun w=>qpc b w
 have hw:wrap64 ((s.acts:Int)+1)=(s.acts:Int)+1:=by have:=ok.acts;unfold wrap64;omega
 unfold Nt.act
 by_cases hf:300<=s.acts
 ·rw[if_pos hf]
  have hg:(300:Int)<=(s.acts:Int):=by omega
  have CF:=fun w=>qdj 6 w
  rw[←qdo] at CF
  clear hf hT h0 ok ha
  go_enter func35,ntmps35
  go_wp2_with (first|((with_reducible refine gB 27 1 ?_);refine bx 27 (.tmp 1) (ac a) ?_;intro b3 w9 l9 R9 h9;replace N:=N.alloc (o:=ob 27 ((ac a))) l9 R9 h9;clear R9 h9 l9;clear c1;have c1:=N.nat.cellActs)|((with_reducible refine gA 30 ?_);refine ax 4 30 qan ?_;intro b4 w9 l9 R9 h9;replace N:=N.alloc (o:=ob 30 ((qas 0).cells)) l9 R9 h9;clear R9 h9 l9;clear c1;have c1:=N.nat.cellActs)|(go_at_call 68;go_fit (CF _);rintro e w5 ⟨rfl,hb5⟩;replace N:=N.below hb5;clear hb5)|((with_reducible refine gS 30 4 13 ?_);refine sx 30 (.tmp 4) _ ((qas 6).cells) (N.row 0 rfl) ?_;intro w9 R9 t9;replace N:=N.turn 0 rfl R9 t9;clear R9 t9))
  ((try simp only[Exit.inBlock,Exit.then]);refine bodyPost_ret (qai (p:=4) rfl _ _ _ _ rfl (N.row 0 rfl) _ underlying30 rfl (qad _)) rfl ⟨rfl,_,N.nat,N.gr,N.sub⟩)
 rw[if_neg hf]
 have hg:¬(300:Int)<=(s.acts:Int):=by omega
 simp only
 have hlg:s.logged<=100000:=by have:=ok.logged;have:=ok.acts;omega
 have hbg:s.began+1<700:=by have:=ok.began;have:=ok.acts;omega
 have hfw:s.fs.length+1<400:=by have:=ok.few;omega
 have hst:∀m∈s.ms,0<=m.2.1/\m.2.1<8:=fun m hm=>(ok.good.maps.1 m hm).2.1
 have hpre:∀ {W:World} {F':Nat->Prop} {s':Nt} {tm:Int->Option Int} {L:List (Nat×Obj)},Nb w W b s' tm F F' L->Tab W/\¬F' 0:=fun N=>⟨hT.gr N.gr h0,N.zero hT h0⟩
 have HPRE:Hid (∀ {W:World} {F':Nat->Prop} {s':Nt} {tm:Int->Option Int} {L:List (Nat×Obj)},Nb w W b s' tm F F' L->Tab W/\¬F' 0):=hidN hpre
 clear hpre
 by_cases k1:a.kd=1
 ·rw[if_pos k1]
  have e1:(a.kd==1)=true:=by simp[k1]
  have CK:=fun W F (hN:qaw W b { s with acts:=s.acts+1 } (duF s.fs) F) (hp:Tab W/\¬F 0)=>q76 hN a.fr ha.2.2.2 a.dr ha.2.2.1 hp.1 hp.2 ok.good.wf (by have:=ok.left;show s.left<=100;omega) ok.now hbg hfw hlg hst ok.flows (fun _ _ _=>qy7 _ _ _ _ _ _ _ _)
  generalize Nt.out { s with acts:=s.acts+1 } a.fr.data.toList a.dr=r at *
  obtain⟨r1,r2⟩:=r
  simp only at CK ⊢
  clear hf hT h0 ok ha k1 hlg hbg hfw hst
  go_enter func35,ntmps35
  go_wp2_with (first|((with_reducible refine gB 27 1 ?_);refine bx 27 (.tmp 1) (ac a) ?_;intro b3 w9 l9 R9 h9;replace N:=N.alloc (o:=ob 27 ((ac a))) l9 R9 h9;clear R9 h9 l9;clear c1;have c1:=N.nat.cellActs)|((with_reducible refine gA 30 ?_);refine ax 4 30 qan ?_;intro b4 w9 l9 R9 h9;replace N:=N.alloc (o:=ob 30 ((qas 0).cells)) l9 R9 h9;clear R9 h9 l9;clear c1;have c1:=N.nat.cellActs)|((with_reducible refine gS 3 20 18 ?_);refine qfn N rfl (.tmp 20) (.tmp 18) rfl rfl (s.acts+1) (by first|exact qfs _|exact qg6 hw|(rw[hw];exact qfs _)) ?_;clear N c1;intro w9 F9 N)|((with_reducible refine gL 3 21 ?_);refine fx (N.row 1 rfl) _ 0 (a.kd) ?_)|((with_reducible refine gL 9 26 ?_);refine qcm (N.row 1 rfl) (.tmp 26) rfl kr 3 rfl a.fr rfl ?_)|((with_reducible refine gL 3 28 ?_);refine fx (N.row 1 rfl) _ 2 (a.dr) ?_)|(go_at_call 69;go_fit (CK _ _ N.nat (HPRE.out N));rintro e w5 ⟨rfl,F9,hN9,hg9,hf9⟩;clear CK;replace N:=N.call hN9 hg9 hf9;clear hN9 hg9 hf9)|((with_reducible refine gS 30 4 30 ?_);refine sx 30 (.tmp 4) _ (r1.cells) (N.row 0 rfl) ?_;intro w9 R9 t9;replace N:=N.turn 0 rfl R9 t9;clear R9 t9))
  ((try simp only[Exit.inBlock,Exit.then]);refine bodyPost_ret (qai (p:=4) rfl _ _ _ _ rfl (N.row 0 rfl) _ underlying30 rfl (qad _)) rfl ⟨rfl,_,N.nat,N.gr,N.sub⟩)
 rw[if_neg k1]
 have e1:(a.kd==1)=false:=by simp[k1]
 by_cases k2:a.kd=2
 ·rw[if_pos k2]
  have e2:(a.kd==2)=true:=by simp[k2]
  have CK:=fun W F (hN:qaw W b { s with acts:=s.acts+1 } (duF s.fs) F)=>q1g hN a.fr ha.2.2.2 ok.now (by show s.began<700;omega) (by show s.fs.length<400;omega) hst
  generalize Nt.inn { s with acts:=s.acts+1 } a.fr.data.toList=r at *
  obtain⟨r1,r2⟩:=r
  simp only at CK ⊢
  clear hf hT h0 ok ha k1 k2 hlg hbg hfw hst
  go_enter func35,ntmps35
  go_wp2_with (first|((with_reducible refine gB 27 1 ?_);refine bx 27 (.tmp 1) (ac a) ?_;intro b3 w9 l9 R9 h9;replace N:=N.alloc (o:=ob 27 ((ac a))) l9 R9 h9;clear R9 h9 l9;clear c1;have c1:=N.nat.cellActs)|((with_reducible refine gA 30 ?_);refine ax 4 30 qan ?_;intro b4 w9 l9 R9 h9;replace N:=N.alloc (o:=ob 30 ((qas 0).cells)) l9 R9 h9;clear R9 h9 l9;clear c1;have c1:=N.nat.cellActs)|((with_reducible refine gS 3 20 18 ?_);refine qfn N rfl (.tmp 20) (.tmp 18) rfl rfl (s.acts+1) (by first|exact qfs _|exact qg6 hw|(rw[hw];exact qfs _)) ?_;clear N c1;intro w9 F9 N)|((with_reducible refine gL 3 21 ?_);refine fx (N.row 1 rfl) _ 0 (a.kd) ?_)|((with_reducible refine gL 9 34 ?_);refine qcm (N.row 1 rfl) (.tmp 34) rfl kr 3 rfl a.fr rfl ?_)|(go_at_call 70;go_fit (CK _ _ N.nat);rintro e w5 ⟨rfl,F9,hN9,hg9,hf9⟩;clear CK;replace N:=N.call hN9 hg9 hf9;clear hN9 hg9 hf9)|((with_reducible refine gS 30 4 36 ?_);refine sx 30 (.tmp 4) _ (r1.cells) (N.row 0 rfl) ?_;intro w9 R9 t9;replace N:=N.turn 0 rfl R9 t9;clear R9 t9))
  ((try simp only[Exit.inBlock,Exit.then]);refine bodyPost_ret (qai (p:=4) rfl _ _ _ _ rfl (N.row 0 rfl) _ underlying30 rfl (qad _)) rfl ⟨rfl,_,N.nat,N.gr,N.sub⟩)
 rw[if_neg k2]
 have e2:(a.kd==2)=false:=by simp[k2]
 by_cases k3:a.kd=3
 ·rw[if_pos k3]
  have e3:(a.kd==3)=true:=by simp[k3]
  have CK:=fun W F (hN:qaw W b { s with acts:=s.acts+1 } (duF s.fs) F) (hp:Tab W/\¬F 0)=>q6t hN a.n ha.2.1 hp.1 hp.2 ok.now ok.left hlg ok.good ok.mem (by have:=ok.few;show s.fs.length<=64;omega)
  generalize Nt.tick { s with acts:=s.acts+1 } a.n=r at *
  obtain⟨r1,r2⟩:=r
  simp only at CK ⊢
  clear hf hT h0 ok ha k1 k2 k3 hlg hbg hfw hst
  go_enter func35,ntmps35
  go_wp2_with (first|((with_reducible refine gB 27 1 ?_);refine bx 27 (.tmp 1) (ac a) ?_;intro b3 w9 l9 R9 h9;replace N:=N.alloc (o:=ob 27 ((ac a))) l9 R9 h9;clear R9 h9 l9;clear c1;have c1:=N.nat.cellActs)|((with_reducible refine gA 30 ?_);refine ax 4 30 qan ?_;intro b4 w9 l9 R9 h9;replace N:=N.alloc (o:=ob 30 ((qas 0).cells)) l9 R9 h9;clear R9 h9 l9;clear c1;have c1:=N.nat.cellActs)|((with_reducible refine gS 3 20 18 ?_);refine qfn N rfl (.tmp 20) (.tmp 18) rfl rfl (s.acts+1) (by first|exact qfs _|exact qg6 hw|(rw[hw];exact qfs _)) ?_;clear N c1;intro w9 F9 N)|((with_reducible refine gL 3 21 ?_);refine fx (N.row 1 rfl) _ 0 (a.kd) ?_)|((with_reducible refine gL 3 40 ?_);refine fx (N.row 1 rfl) _ 1 (a.n) ?_)|(go_at_call 71;go_fit (CK _ _ N.nat (HPRE.out N));rintro e w5 ⟨rfl,F9,hN9,hg9,hf9⟩;clear CK;replace N:=N.call hN9 hg9 hf9;clear hN9 hg9 hf9)|((with_reducible refine gS 30 4 42 ?_);refine sx 30 (.tmp 4) _ (r1.cells) (N.row 0 rfl) ?_;intro w9 R9 t9;replace N:=N.turn 0 rfl R9 t9;clear R9 t9))
  ((try simp only[Exit.inBlock,Exit.then]);refine bodyPost_ret (qai (p:=4) rfl _ _ _ _ rfl (N.row 0 rfl) _ underlying30 rfl (qad _)) rfl ⟨rfl,_,N.nat,N.gr,N.sub⟩)
 rw[if_neg k3]
 have e3:(a.kd==3)=false:=by simp[k3]
 by_cases k4:a.kd=4
 ·rw[if_pos k4]
  have e4:(a.kd==4)=true:=by simp[k4]
  have CK:=fun W F (hN:qaw W b { s with acts:=s.acts+1 } (duF s.fs) F)=>quh hN a.n
  have hfs:(Nt.drain { s with acts:=s.acts+1 } a.n true).2.fs=s.fs:=rfl
  rw[hfs]
  generalize Nt.drain { s with acts:=s.acts+1 } a.n true=r at *
  obtain⟨r1,r2⟩:=r
  simp only at CK ⊢
  clear hf hT h0 ok ha k1 k2 k3 k4 hlg hbg hfw hst hfs
  go_enter func35,ntmps35
  go_wp2_with (first|((with_reducible refine gB 27 1 ?_);refine bx 27 (.tmp 1) (ac a) ?_;intro b3 w9 l9 R9 h9;replace N:=N.alloc (o:=ob 27 ((ac a))) l9 R9 h9;clear R9 h9 l9;clear c1;have c1:=N.nat.cellActs)|((with_reducible refine gA 30 ?_);refine ax 4 30 qan ?_;intro b4 w9 l9 R9 h9;replace N:=N.alloc (o:=ob 30 ((qas 0).cells)) l9 R9 h9;clear R9 h9 l9;clear c1;have c1:=N.nat.cellActs)|((with_reducible refine gS 3 20 18 ?_);refine qfn N rfl (.tmp 20) (.tmp 18) rfl rfl (s.acts+1) (by first|exact qfs _|exact qg6 hw|(rw[hw];exact qfs _)) ?_;clear N c1;intro w9 F9 N)|((with_reducible refine gL 3 21 ?_);refine fx (N.row 1 rfl) _ 0 (a.kd) ?_)|((with_reducible refine gL 3 46 ?_);refine fx (N.row 1 rfl) _ 1 (a.n) ?_)|(go_at_call 72;go_fit (CK _ _ N.nat);rintro e w5 ⟨rfl,F9,hN9,hg9,hf9⟩;clear CK;replace N:=N.call hN9 hg9 hf9;clear hN9 hg9 hf9)|((with_reducible refine gS 30 4 48 ?_);refine sx 30 (.tmp 4) _ (r1.cells) (N.row 0 rfl) ?_;intro w9 R9 t9;replace N:=N.turn 0 rfl R9 t9;clear R9 t9))
  ((try simp only[Exit.inBlock,Exit.then]);refine bodyPost_ret (qai (p:=4) rfl _ _ _ _ rfl (N.row 0 rfl) _ underlying30 rfl (qad _)) rfl ⟨rfl,_,N.nat,N.gr,N.sub⟩)
 rw[if_neg k4]
 have e4:(a.kd==4)=false:=by simp[k4]
 by_cases k5:a.kd=5
 ·rw[if_pos k5]
  have e5:(a.kd==5)=true:=by simp[k5]
  have CK:=fun W F (hN:qaw W b { s with acts:=s.acts+1 } (duF s.fs) F)=>qso hN a.n
  have hfs:(Nt.drain { s with acts:=s.acts+1 } a.n false).2.fs=s.fs:=rfl
  rw[hfs]
  generalize Nt.drain { s with acts:=s.acts+1 } a.n false=r at *
  obtain⟨r1,r2⟩:=r
  simp only at CK ⊢
  clear hf hT h0 ok ha k1 k2 k3 k4 k5 hlg hbg hfw hst hfs
  go_enter func35,ntmps35
  go_wp2_with (first|((with_reducible refine gB 27 1 ?_);refine bx 27 (.tmp 1) (ac a) ?_;intro b3 w9 l9 R9 h9;replace N:=N.alloc (o:=ob 27 ((ac a))) l9 R9 h9;clear R9 h9 l9;clear c1;have c1:=N.nat.cellActs)|((with_reducible refine gA 30 ?_);refine ax 4 30 qan ?_;intro b4 w9 l9 R9 h9;replace N:=N.alloc (o:=ob 30 ((qas 0).cells)) l9 R9 h9;clear R9 h9 l9;clear c1;have c1:=N.nat.cellActs)|((with_reducible refine gS 3 20 18 ?_);refine qfn N rfl (.tmp 20) (.tmp 18) rfl rfl (s.acts+1) (by first|exact qfs _|exact qg6 hw|(rw[hw];exact qfs _)) ?_;clear N c1;intro w9 F9 N)|((with_reducible refine gL 3 21 ?_);refine fx (N.row 1 rfl) _ 0 (a.kd) ?_)|((with_reducible refine gL 3 52 ?_);refine fx (N.row 1 rfl) _ 1 (a.n) ?_)|(go_at_call 72;go_fit (CK _ _ N.nat);rintro e w5 ⟨rfl,F9,hN9,hg9,hf9⟩;clear CK;replace N:=N.call hN9 hg9 hf9;clear hN9 hg9 hf9)|((with_reducible refine gS 30 4 54 ?_);refine sx 30 (.tmp 4) _ (r1.cells) (N.row 0 rfl) ?_;intro w9 R9 t9;replace N:=N.turn 0 rfl R9 t9;clear R9 t9))
  ((try simp only[Exit.inBlock,Exit.then]);refine bodyPost_ret (qai (p:=4) rfl _ _ _ _ rfl (N.row 0 rfl) _ underlying30 rfl (qad _)) rfl ⟨rfl,_,N.nat,N.gr,N.sub⟩)
 rw[if_neg k5]
 have e5:(a.kd==5)=false:=by simp[k5]
 have CF:=fun w=>qdj 4 w
 rw[←qdo] at CF
 clear hf hT h0 ok ha k1 k2 k3 k4 k5 hlg hbg hfw hst
 go_enter func35,ntmps35
 go_wp2_with (first|((with_reducible refine gB 27 1 ?_);refine bx 27 (.tmp 1) (ac a) ?_;intro b3 w9 l9 R9 h9;replace N:=N.alloc (o:=ob 27 ((ac a))) l9 R9 h9;clear R9 h9 l9;clear c1;have c1:=N.nat.cellActs)|((with_reducible refine gA 30 ?_);refine ax 4 30 qan ?_;intro b4 w9 l9 R9 h9;replace N:=N.alloc (o:=ob 30 ((qas 0).cells)) l9 R9 h9;clear R9 h9 l9;clear c1;have c1:=N.nat.cellActs)|((with_reducible refine gS 3 20 18 ?_);refine qfn N rfl (.tmp 20) (.tmp 18) rfl rfl (s.acts+1) (by first|exact qfs _|exact qg6 hw|(rw[hw];exact qfs _)) ?_;clear N c1;intro w9 F9 N)|((with_reducible refine gL 3 21 ?_);refine fx (N.row 1 rfl) _ 0 (a.kd) ?_)|(go_at_call 68;go_fit (CF _);rintro e w5 ⟨rfl,hb5⟩;replace N:=N.below hb5;clear hb5)|((with_reducible refine gS 30 4 55 ?_);refine sx 30 (.tmp 4) _ ((qas 4).cells) (N.row 0 rfl) ?_;intro w9 R9 t9;replace N:=N.turn 0 rfl R9 t9;clear R9 t9))
 ((try simp only[Exit.inBlock,Exit.then]);refine bodyPost_ret (qai (p:=4) rfl _ _ _ _ rfl (N.row 0 rfl) _ underlying30 rfl (qad _)) rfl ⟨rfl,_,N.nat,N.gr,N.sub⟩)
structure Ci(s:Nt):Prop where
 good:qbq s.f s.h s.ms
 left:s.left<=4
 now:0<=s.now/\s.now<=549755813888
 few:s.fs.length<=48
 rem:∀x∈s.fs,0<=x.2.rem/\x.2.rem<=4294967295
 mem:∀x∈s.fs,flM x.2∈s.ms
 up:s.fs.Pairwise (fun x y=>x.1<y.1)
 num:∀x∈s.fs,x.1<=s.began
 due:∀x∈s.fs,s.now<x.2.du/\x.2.du<=s.now+60
 used:∀m∈s.ms,∃x∈s.fs,flM x.2=m
 apart:s.fs.Pairwise (fun x y=>¬(flM x.2=flM y.2/\x.2.rem=y.2.rem/\x.2.rp=y.2.rp))
theorem qvu(p s:Int):1<=qb0 p s/\qb0 p s<=60:=by unfold qb0;split<;>(try split)<;>(try split)<;>(try split)<;>omega
theorem qza(k:Fl)(x:Int)(inw:Bool):flM (qem k x inw).1=flM k/\(qem k x inw).1.rem=k.rem/\(qem k x inw).1.rp=k.rp:=by
 unfold qem qbi
 (repeat' split)<;>exact⟨rfl,rfl,rfl⟩
theorem qnr(k:Fl)(x now:Int)(inw:Bool):flM (qcu k x inw now)=flM k/\(qcu k x inw now).rem=k.rem/\(qcu k x inw now).rp=k.rp:=by
 have:=qza k x inw
 unfold qcu
 split
 ·exact this
 ·exact this
theorem qod{k:Fl}{x now:Int}{inw:Bool}(h:now<k.du/\k.du<=now+60):now<(qcu k x inw now).du/\(qcu k x inw now).du<=now+60:=by
 have key:=qvb k x inw
 unfold qcu
 split
 ·have:=qvu (qem k x inw).1.pr (qem k x inw).1.st
  simp only
  omega
 ·rw[key];exact h
theorem qnd{fs:List (Nat×Fl)}{n:Nat}{k:Fl}{P:Nat×Fl->Prop}(h:∀x∈fs,P x)(hk:P (n,k)):∀x∈setF fs n k,P x:=by
 intro x hx
 unfold setF at hx
 obtain⟨y,hy,rfl⟩:=List.mem_map.1 hx
 split
 ·exact hk
 ·exact h y hy
theorem sZxn112{p:Prop}(h:p:=by
 have h1:=qf6 h.up hy
 have h2:=qf6 h.up hx
 rw[e,h2] at h1
 exact(Option.some.inj h1).symm):p:=h
theorem Ci.keep{s:Nt}(h:Ci s){x:Nat×Fl}(hx:x∈s.fs){k:Fl}(hm:flM k=flM x.2/\k.rem=x.2.rem/\k.rp=x.2.rp)(hd:s.now<k.du/\k.du<=s.now+60):Ci (s.keep x.1 k):=by
 have hnm:=qwi s.fs x.1 k
 have huniq:∀y∈s.fs,y.1=x.1->y.2=x.2:=fun y hy e=>by
  exact sZxn112
 refine⟨h.good,h.left,h.now,by show(setF s.fs x.1 k).length<=48;rw[qwo];exact h.few,qnd h.rem (by show 0<=k.rem/\k.rem<=4294967295;rw[hm.2.1];exact h.rem x hx),qnd h.mem (by show flM k∈s.ms;rw[hm.1];exact h.mem x hx),qum hnm h.up,qnd h.num (h.num x hx),qnd h.due hd,fun m hm'=>?_,?_⟩
 ·obtain⟨y,hy,e⟩:=h.used m hm'
  by_cases e2:y.1=x.1
  ·exact⟨(x.1,k),qvd hx k,by show flM k=m;rw[hm.1,←huniq y hy e2];exact e⟩
  ·exact⟨y,by show y∈setF s.fs x.1 k;unfold setF;exact List.mem_map.2 ⟨y,hy,by rw[if_neg e2]⟩,e⟩
 ·show(setF s.fs x.1 k).Pairwise _
  unfold setF
  rw[List.pairwise_map]
  refine List.Pairwise.imp_of_mem ?_ h.apart
  intro a b ha hb hab
  by_cases ea:a.1=x.1
  ·have e1:=huniq a ha ea
   by_cases eb:b.1=x.1
   ·have e2:=huniq b hb eb
    exact absurd ⟨by rw[e1,e2],by rw[e1,e2],by rw[e1,e2]⟩ hab
   ·rw[if_pos ea,if_neg eb];simp only;rw[hm.1,hm.2.1,hm.2.2,←e1];exact hab
  ·by_cases eb:b.1=x.1
   ·have e2:=huniq b hb eb
    rw[if_neg ea,if_pos eb];simp only;rw[hm.1,hm.2.1,hm.2.2,←e2];exact hab
   ·rw[if_neg ea,if_neg eb];exact hab
theorem Ci.add{s:Nt}(h:Ci s){f' h':Nat->Int}{ms':List Mp}(G:qbq f' h' ms'){k:Fl}(hk:flM k∈ms')(hs:∀m∈s.ms,m∈ms')(hn:∀m∈ms',m∈s.ms\/m=flM k)(hfull:s.fs.length<48)(hrem:0<=k.rem/\k.rem<=4294967295)(hne:∀x∈s.fs,¬(flM x.2=flM k/\x.2.rem=k.rem/\x.2.rp=k.rp)):Ci ((s.setT f' h' ms').begin k):=by
 have hd:dueF (s.setT f' h' ms') k={ k with du:=s.now+qb0 k.pr k.st }:=rfl
 have hlp:=qvu k.pr k.st
 have hmk:flM (dueF (s.setT f' h' ms') k)=flM k:=rfl
 refine⟨G,h.left,h.now,by show(s.fs++[_]).length<=48;simp;omega,?_,?_,?_,?_,?_,?_,?_⟩
 ·intro x hx
  rcases List.mem_append.1 (show x∈s.fs++[_] from hx) with h1|h1
  ·exact h.rem x h1
  ·obtain rfl:=List.mem_singleton.1 h1;exact hrem
 ·intro x hx
  rcases List.mem_append.1 (show x∈s.fs++[_] from hx) with h1|h1
  ·exact hs _ (h.mem x h1)
  ·obtain rfl:=List.mem_singleton.1 h1;exact hk
 ·show(s.fs++[(s.began+1,_)]).Pairwise _
  rw[List.pairwise_append]
  refine⟨h.up,by simp,fun x hx y hy=>?_⟩
  obtain rfl:=List.mem_singleton.1 hy
  have:=h.num x hx
  simp only;omega
 ·intro x hx
  show x.1<=s.began+1
  rcases List.mem_append.1 (show x∈s.fs++[_] from hx) with h1|h1
  ·exact Nat.le_succ_of_le (h.num x h1)
  ·obtain rfl:=List.mem_singleton.1 h1;exact Nat.le_refl _
 ·intro x hx
  show s.now<x.2.du/\x.2.du<=s.now+60
  rcases List.mem_append.1 (show x∈s.fs++[_] from hx) with h1|h1
  ·exact h.due x h1
  ·obtain rfl:=List.mem_singleton.1 h1
   show s.now<s.now+qb0 k.pr k.st/\s.now+qb0 k.pr k.st<=s.now+60
   omega
 ·intro m hm
  rcases hn m hm with h1|h1
  ·obtain⟨x,hx,e⟩:=h.used m h1
   exact⟨x,List.mem_append.2 (.inl hx),e⟩
  ·exact⟨_,List.mem_append.2 (.inr (List.mem_singleton.2 rfl)),h1.symm▸hmk⟩
 ·show(s.fs++[(s.began+1,_)]).Pairwise _
  rw[List.pairwise_append]
  refine⟨h.apart,by simp,fun x hx y hy=>?_⟩
  obtain rfl:=List.mem_singleton.1 hy
  exact hne x hx
theorem qqq{s:Nt}{P:Fl->Bool}(h:s.find P=none):∀x∈s.fs,P x.2=false:=fun x hx=>by
 have:=List.find?_eq_none.1 h x hx
 simpa using this
theorem Ci.letIn{s:Nt}(h:Ci s){p:Pkt}(hp:0<=p.src/\p.src<=4294967295){m:Mp}(hm:m∈s.ms):Ci (s.letIn p m).2:=by
 unfold Nt.letIn
 cases hf:s.find (qio p m) with
 | some x=>
  have hx:=qjj hf
  exact h.keep hx.1 (qnr _ _ _ _) (qod (h.due x hx.1))
 | none=>
  simp only
  split
  ·exact h
  ·split
   ·exact h
   ·rename_i hu
    have hfl:s.full=false:=by cases e:s.full with|false=>rfl|true=>rw[e] at hu;simp at hu
    refine h.add (f':=s.f) (h':=s.h) (ms':=s.ms) h.good hm (fun _ h=>h) (fun _ h=>.inl h) (by unfold Nt.full at hfl;simpa using hfl) hp (fun x hx hh=>?_)
    have:=qqq hf x hx
    unfold qio qey at this
    rw[hh.1,hh.2.1,hh.2.2] at this
    have e1:flM (mkF m p.src p.sport 2)=m:=rfl
    rw[e1] at this
    simp[mkF] at this
theorem qsg{l:List UInt8}(hb:bad l=0):(0<=(qam l).src/\(qam l).src<=4294967295)/\(0<=(qam l).dst/\(qam l).dst<=4294967295):=by
 have hrg:=(qdu _).1 (qde _ (qqk hb)).2.1
 exact⟨⟨hrg.1,hrg.2.1⟩,hrg.2.2.1,hrg.2.2.2.1⟩
theorem Ci.inn{s:Nt}(h:Ci s)(l:List UInt8):Ci (s.inn l).2:=by
 unfold Nt.inn
 split
 ·exact h
 ·rename_i hb
  have hb0:bad l=0:=by omega
  (repeat' split)<;>first
   | exact h
   | (rename_i m hm _;exact h.letIn (qsg hb0).1 (List.mem_of_find?_eq_some hm))
theorem Ci.leave{s:Nt}(h:Ci s)(l:List UInt8)(k:Fl):Ci (s.leave l k).2:=by
 unfold Nt.leave
 split
 ·exact h.inn _
 ·exact h
theorem Ci.refuse{s:Nt}(h:Ci s)(l:List UInt8)(why:Int):Ci (s.refuse l why).2:=by
 unfold Nt.refuse
 split
 ·exact h
 ·exact⟨h.good,by show s.left-1<=4;have:=h.left;omega,h.now,h.few,h.rem,h.mem,h.up,h.num,h.due,h.used,h.apart⟩
theorem Ci.log{s:Nt}(h:Ci s)(es:List Ev):Ci (s.log es).2:=by
 unfold Nt.log
 split
 ·exact h
 ·exact⟨h.good,h.left,h.now,h.few,h.rem,h.mem,h.up,h.num,h.due,h.used,h.apart⟩
theorem qsb{f:Nat->Int}{g:Nat->Bool}{h:Nat->Int}{ms:List Mp}{p s i d:Int}(he:(qba f g h ms p s i d).e=0):(qba f g h ms p s i d).m.1=p/\(qba f g h ms p s i d).m.2.1=s/\(qba f g h ms p s i d).m.2.2.1=i/\∀m∈(qba f g h ms p s i d).ms,m∈ms\/m=(qba f g h ms p s i d).m:=by
 by_cases hP:qjy f h ms p s i
 rotate_left
 ·have ho:qba f g h ms p s i d=⟨2,f,h,ms,noM,false⟩:=by unfold qba;rw[if_neg hP]
  rw[ho] at he;simp at he
 cases hf:ms.find? (inS p s i) with
 | some m=>
  have ho:qba f g h ms p s i d=⟨0,f,h,ms,m,false⟩:=by unfold qba;rw[if_pos hP,hf]
  rw[ho]
  have:=(qsm _ _ _ _).1 (List.find?_some hf)
  exact⟨this.1,this.2.1,this.2.2,fun _ h=>.inl h⟩
 | none=>
  by_cases hc:cntM ms s=12
  ·have ho:qba f g h ms p s i d=⟨6,f,h,ms,noM,false⟩:=by unfold qba;rw[if_pos hP,hf];simp only;rw[if_pos hc]
   rw[ho] at he;simp at he
  ·by_cases hr:(qbe f g h ms p s d).e=0
   rotate_left
   ·have ho:qba f g h ms p s i d=⟨(qbe f g h ms p s d).e,f,h,ms,noM,false⟩:=by unfold qba;rw[if_pos hP,hf];simp only;rw[if_neg hc,if_pos hr]
    rw[ho] at he;exact absurd he hr
   ·have ho:qba f g h ms p s i d=⟨0,(qbe f g h ms p s d).f,(qbe f g h ms p s d).h,ms++[(p,s,i,(qbe f g h ms p s d).h s.toNat-1,(qbe f g h ms p s d).q)],(p,s,i,(qbe f g h ms p s d).h s.toNat-1,(qbe f g h ms p s d).q),(qbe f g h ms p s d).took⟩:=by unfold qba;rw[if_pos hP,hf];simp only;rw[if_neg hc,if_neg (fun h=>h hr)]
    rw[ho]
    exact⟨rfl,rfl,rfl,fun m hm=>by simpa using hm⟩
theorem qjg(m:Mp)(x y z:Int):flM (mkF m x y z)=m:=rfl
theorem Ci.first{s:Nt}(h:Ci s)(l:List UInt8){p:Pkt}(hp:0<=p.dst/\p.dst<=4294967295){sub:Int}(hf:s.find (outF p sub)=none)(draw:Int):Ci (s.first l p sub draw).2:=by
 unfold Nt.first
 split
 ·exact h.refuse _ _
 ·rename_i hfull
  have hlen:s.fs.length<48:=by unfold Nt.full at hfull;simpa using hfull
  simp only
  split
  ·exact h.refuse _ _
  ·rename_i he
   have he0:(qba s.f s.g s.h s.ms p.proto sub p.sport draw).e=0:=by omega
   obtain⟨G,hm,hs⟩:=qk3 he0
   obtain⟨m1,m2,m3,hn⟩:=qsb he0
   generalize qba s.f s.g s.h s.ms p.proto sub p.sport draw=o at *
   have key:Ci ((s.setT o.f o.h o.ms).begin (mkF o.m p.dst p.dport (qao p.proto))):=by
    refine h.add G (by rw[qjg];exact hm) hs (fun m hm'=>by rw[qjg];exact hn m hm') hlen hp (fun x hx hh=>?_)
    have:=qqq hf x hx
    rw[qjg] at hh
    have e1:x.2.pr=p.proto:=by rw[←m1,←hh.1];rfl
    have e2:x.2.s=sub:=by rw[←m2,←hh.1];rfl
    have e3:x.2.i=p.sport:=by rw[←m3,←hh.1];rfl
    have e4:x.2.rem=p.dst:=hh.2.1
    have e5:x.2.rp=p.dport:=hh.2.2
    unfold outF at this
    rw[e1,e2,e3,e4,e5] at this
    simp at this
   split
   ·exact(key.leave _ _).log _
   ·exact key.leave _ _
theorem Ci.out{s:Nt}(h:Ci s)(l:List UInt8)(draw:Int):Ci (s.out l draw).2:=by
 unfold Nt.out
 split
 ·exact h
 ·rename_i hb
  have hb0:bad l=0:=by omega
  split
  ·exact h
  ·split
   ·exact h
   ·split
    ·exact h
    ·cases hf:s.find (outF (qam l) ((qam l).src-167772161)) with
     | some x=>
      have hx:=qjj hf
      exact(h.keep hx.1 (qnr _ _ _ _) (qod (h.due x hx.1))).leave _ _
     | none=>
      simp only
      split
      ·exact h
      ·exact h.first l (qsg hb0).2 hf draw
theorem qws{a:Nt}{i:Int}{r:List Int}(h:TkOk a (i::r))(es:List Ev)(u:∀m∈a.ms,∃x∈a.fs,flM x.2=m):∀m∈(qeg (es,a) i).2.ms,∃x∈(qeg (es,a) i).2.fs,flM x.2=m:=by
 obtain⟨x,hx,e⟩:=h.there i (List.mem_cons_self)
 subst e
 have huniq:∀y∈a.fs,y.1=x.1->y.2=x.2:=fun y hy e=>by
  exact sZxn112
 have keep:∀m,(∃y∈a.fs,flM y.2=m)->m≠flM x.2->∃y∈(a.less (x.1:Int)).fs,flM y.2=m:=by
  rintro m ⟨y,hy,e⟩ hne
  refine⟨y,List.mem_filter.2 ⟨hy,decide_eq_true (fun e2=>hne ?_)⟩,e⟩
  rw[←e,huniq y hy om]
 rw[qlw es h.up hx]
 intro m hm
 simp only at hm ⊢
 unfold Nt.closeU at hm ⊢
 cases hf:(a.less (x.1:Int)).find (qf0 (flM x.2)) with
 | some y=>
  rw[hf,if_pos (by rfl)] at hm
  rw[if_pos (by rfl)]
  have hy:=qjj hf
  have ey:flM y.2=flM x.2:=by have:=hy.2;unfold qf0 at this;simpa using this
  by_cases e:m=flM x.2
  ·exact⟨y,hy.1,by rw[ey,e]⟩
  ·exact keep m (u m hm) e
 | none=>
  rw[hf,if_neg zm] at hm
  rw[if_neg zm]
  have hm2:m∈a.ms/\m≠flM x.2:=by
   have:m∈qa6 a.ms (flM x.2):=hm
   unfold qa6 at this
   simpa using this
  exact keep m (u m hm2.1) hm2.2
theorem q19{s:Nt}(u:∀m∈s.ms,∃x∈s.fs,flM x.2=m){l:List Int}(h:TkOk s l):∀j,j<=l.length->∀m∈(qbu s (l.take j)).2.ms,∃x∈(qbu s (l.take j)).2.fs,flM x.2=m:=by
 intro j
 induction j with
 | zero=>intro _;rw[List.take_zero];exact u
 | succ j ih=>
  intro hj
  have h1:=qng h j om
  rw[List.drop_eq_getElem_cons om] at h1
  rw[List.take_succ_eq_append_getElem om,qgd]
  exact qws h1.ok _ (ih om)
def Nt.later(s:Nt)(n:Int):Nt:={ s with left:=min (s.left+n.toNat) 4,now:=s.now+n }
theorem qsn{s:Nt}(h:Ci s)(n:Int):qiw (s.later n) (s.dueL (s.now+n)) []:=by
 have hok:=qr7 h.good h.up h.mem (s.now+n)
 have hok1:TkOk (s.later n) (s.dueL (s.now+n)):=⟨hok.good,hok.up,hok.nd,hok.there,hok.mem⟩
 have:=qng hok1 _ (Nat.le_refl _)
 rw[List.take_length,List.drop_length] at this
 exact this
theorem Ci.fold{s:Nt}(h:Ci s){n:Int}(hn:1<=n)(hm:n<=549755813888-s.now):Ci (qbu (s.later n) (s.dueL (s.now+n))).2:=by
 have F:=qsn h n
 have hok:=qr7 h.good h.up h.mem (s.now+n)
 have hok1:TkOk (s.later n) (s.dueL (s.now+n)):=⟨hok.good,hok.up,hok.nd,hok.there,hok.mem⟩
 have hu:=q19 (s:=s.later n) h.used hok1 _ (Nat.le_refl _)
 rw[List.take_length] at hu
 obtain⟨r1,r2,r3,r4,r5,r6,r7⟩:=F.rest
 have hfs:(qbu (s.later n) (s.dueL (s.now+n))).2.fs=s.fs.filter fun x=>decide ((x.1:Int) ∉ s.dueL (s.now+n)):=F.fs
 have hsub:∀x∈(qbu (s.later n) (s.dueL (s.now+n))).2.fs,x∈s.fs/\(x.1:Int) ∉ s.dueL (s.now+n):=fun x hx=>by rw[hfs] at hx;simpa using hx
 refine⟨F.ok.good,?_,?_,?_,fun x hx=>h.rem x (hsub x hx).1,F.ok.mem,F.ok.up,fun x hx=>?_,fun x hx=>?_,hu,?_⟩
 ·rw[r2];show min (s.left+n.toNat) 4<=4;omega
 ·rw[r1];have:=h.now;show 0<=s.now+n/\s.now+n<=549755813888;omega
 ·have h1:=F.len
  have h2:=h.few
  have h3:(s.later n).fs.length=s.fs.length:=rfl
  omega
 ·rw[r4];exact h.num x (hsub x hx).1
 ·obtain⟨hx1,hx2⟩:=hsub x hx
  rw[r1]
  show s.now+n<x.2.du/\x.2.du<=s.now+n+60
  have hd:=h.due x hx1
  refine⟨?_,by omega⟩
  rw[qvn h.up] at hx2
  have h3:duF s.fs (x.1:Int)=some x.2.du:=by rw[qle,qf6 h.up hx1];rfl
  by_cases hle:x.2.du<=s.now+n
  ·exact absurd ⟨_,h3,hle⟩ hx2
  ·omega
 ·rw[hfs];exact h.apart.filter _
theorem Ci.tick{s:Nt}(h:Ci s)(n:Int):Ci (s.tick n).2:=by
 unfold Nt.tick
 split
 ·exact h
 ·exact(h.fold (n:=n) om om).log _
theorem Ci.drain{s:Nt}(h:Ci s)(a:Int)(b:Bool):Ci (s.drain a b).2:=⟨h.good,h.left,h.now,h.few,h.rem,h.mem,h.up,h.num,h.due,h.used,h.apart⟩
theorem Ci.acts{s:Nt}(h:Ci s)(k:Nat):Ci { s with acts:=k }:=⟨h.good,h.left,h.now,h.few,h.rem,h.mem,h.up,h.num,h.due,h.used,h.apart⟩
theorem Ci.act{s:Nt}(h:Ci s)(a:Ac):Ci (s.act a).2:=by
 unfold Nt.act
 split
 ·exact h
 ·have h1:=h.acts (s.acts+1)
  simp only
  split
  ·exact h1.out _ _
  ·split
   ·exact h1.inn _
   ·split
    ·exact h1.tick _
    ·split
     ·exact h1.drain _ _
     ·split
      ·exact h1.drain _ _
      ·exact h1
structure Cn(s t:Nt)(b g:Nat):Prop where
 acts:t.acts=s.acts
 began:s.began<=t.began/\t.began<=s.began+b
 logged:s.logged<=t.logged/\t.logged<=s.logged+g
theorem Cn.refl(s:Nt)(b g:Nat):Cn s s b g:=⟨rfl,⟨Nat.le_refl _,by omega⟩,⟨Nat.le_refl _,by omega⟩⟩
theorem Cn.trans{s t u:Nt}{b g b' g':Nat}(h:Cn s t b g)(k:Cn t u b' g'):Cn s u (b+b') (g+g'):=by
 obtain⟨h1,h2,h3⟩:=h
 obtain⟨k1,k2,k3⟩:=k
 exact⟨k1.trans h1,by omega,by omega⟩
theorem q4r(s:Nt)(p:Pkt)(m:Mp):Cn s (s.letIn p m).2 1 0:=by
 unfold Nt.letIn Nt.keep Nt.begin
 (repeat' split)<;>exact⟨rfl,by simp only;omega,by simp only;omega⟩
theorem q37(s:Nt)(l:List UInt8):Cn s (s.inn l).2 1 0:=by
 unfold Nt.inn
 (repeat' split)<;>first|exact Cn.refl _ _ _|exact q4r _ _ _
theorem qvp(s:Nt)(l:List UInt8)(k:Fl):Cn s (s.leave l k).2 1 0:=by
 unfold Nt.leave
 split
 ·exact q37 _ _
 ·exact Cn.refl _ _ _
theorem sZxn113{p:Prop}(h:p:=by
 split
 ·exact Cn.refl _ _ _
 ·exact⟨rfl,by simp only;omega,by simp only;omega⟩):p:=h
theorem qs9(s:Nt)(l:List UInt8)(why:Int):Cn s (s.refuse l why).2 0 0:=by
 unfold Nt.refuse
 exact sZxn113
theorem q4g(s:Nt)(es:List Ev):Cn s (s.log es).2 0 es.length:=by
 unfold Nt.log
 exact sZxn113
theorem Cn.mono{s t:Nt}{b g b' g':Nat}(h:Cn s t b g)(hb:b<=b')(hg:g<=g'):Cn s t b' g':=⟨h.acts,by have:=h.began;omega,by have:=h.logged;omega⟩
theorem q5p(s:Nt)(l:List UInt8)(p:Pkt)(sub draw:Int):Cn s (s.first l p sub draw).2 2 1:=by
 unfold Nt.first
 split
 ·exact(qs9 _ _ _).mono om om
 ·simp only
  split
  ·exact(qs9 _ _ _).mono om om
  ·generalize qba s.f s.g s.h s.ms p.proto sub p.sport draw=o
   have h1:Cn s ((s.setT o.f o.h o.ms).begin (mkF o.m p.dst p.dport (qao p.proto))) 1 0:=⟨rfl,by show s.began<=s.began+1/\s.began+1<=s.began+1;omega,by show s.logged<=s.logged/\s.logged<=s.logged+0;omega⟩
   have h2:=h1.trans (qvp _ l (mkF o.m p.dst p.dport (qao p.proto)))
   split
   ·exact(h2.trans (q4g _ _)).mono om zm
   ·exact h2.mono om om
theorem q98(s:Nt)(l:List UInt8)(draw:Int):Cn s (s.out l draw).2 2 1:=by
 unfold Nt.out
 split
 ·exact Cn.refl _ _ _
 ·split
  ·exact Cn.refl _ _ _
  ·split
   ·exact Cn.refl _ _ _
   ·split
    ·exact Cn.refl _ _ _
    ·cases hf:s.find (outF (qam l) ((qam l).src-167772161)) with
     | some x=>
      have h1:Cn s (s.keep x.1 (qcu x.2 (qam l).flags false s.now)) 0 0:=⟨rfl,by show s.began<=s.began/\s.began<=s.began+0;omega,by show s.logged<=s.logged/\s.logged<=s.logged+0;omega⟩
      exact(h1.trans (qvp _ _ _)).mono om om
     | none=>
      simp only
      split
      ·exact Cn.refl _ _ _
      ·exact q5p _ _ _ _ _
theorem q8m{s:Nt}(h:Ci s)(n:Int):Cn s (s.tick n).2 0 48:=by
 unfold Nt.tick
 split
 ·exact Cn.refl _ _ _
 ·have F:=qsn h n
  obtain⟨r1,r2,r3,r4,r5,r6,r7⟩:=F.rest
  have hlen:=F.len
  have hes:=F.es
  have hfew:=h.few
  have h3:(s.later n).fs.length=s.fs.length:=rfl
  have h1:Cn s (qbu (s.later n) (s.dueL (s.now+n))).2 0 0:=⟨r5,by rw[r4];show s.began<=s.began/\s.began<=s.began+0;omega,by rw[r3];show s.logged<=s.logged/\s.logged<=s.logged+0;omega⟩
  exact(h1.trans (q4g _ _)).mono om (by show 0+(qbu (s.later n) (s.dueL (s.now+n))).1.length<=48;omega)
theorem q9x{s:Nt}(h:Ci s)(a:Ac)(ha:s.acts<300):Cn { s with acts:=s.acts+1 } (s.act a).2 2 48:=by
 unfold Nt.act
 rw[if_neg om]
 have h1:=h.acts (s.acts+1)
 simp only
 split
 ·exact(q98 _ _ _).mono om om
 ·split
  ·exact(q37 _ _).mono om om
  ·split
   ·exact(q8m h1 _).mono om om
   ·split
    ·exact⟨rfl,by simp only[Nt.drain];omega,by simp only[Nt.drain];omega⟩
    ·split
     ·exact⟨rfl,by simp only[Nt.drain];omega,by simp only[Nt.drain];omega⟩
     ·exact Cn.refl _ _ _
structure NInv(s:Nt)(k:Nat):Prop where
 ci:Ci s
 acts:s.acts=k
 logged:s.logged<=64*k
 began:s.began<=2*k
theorem NInv.ok{s:Nt}{k:Nat}(h:NInv s k)(hk:k<=300):NOk s:=⟨h.ci.good,by rw[h.acts];exact hk,h.ci.left,by rw[h.acts];exact h.logged,h.ci.now,h.ci.few,by rw[h.acts];exact h.began,h.ci.rem,h.ci.mem⟩
theorem NInv.act{s:Nt}{k:Nat}(h:NInv s k)(hk:k<300)(a:Ac):NInv (s.act a).2 (k+1):=by
 have c:=q9x h.ci a (by rw[h.acts];exact hk)
 have h1:(s.act a).2.acts=s.acts+1:=c.acts
 have h2:(s.act a).2.began<=s.began+2:=c.began.2
 have h3:(s.act a).2.logged<=s.logged+48:=c.logged.2
 have:=h.acts
 have:=h.logged
 have:=h.began
 exact⟨h.ci.act a,by omega,by omega,by omega⟩
theorem q7g:qbq (fun _=>0) (fun _=>0) []:=⟨by decide,qvg _ _,fun k hk h=>absurd rfl h,fun s hs h=>absurd rfl h,fun s hs=>by
 constructor
 ·have:qbk (fun _=>0) (s:Int)=[]:=by
   unfold qbk
   rw[List.filter_eq_nil_iff]
   intro k hk
   simp
   omega
  rw[this];simp
 ·simp[cntM]⟩
theorem NInv.new(loose:Bool):NInv (nt0 loose) 0:=by
 have no:∀x:Nat×Fl,¬x∈(nt0 loose).fs:=fun x hx=>by simp[nt0] at hx
 refine⟨⟨q7g,?_,?_,?_,fun x hx=>absurd hx (no x),fun x hx=>absurd hx (no x),List.Pairwise.nil,fun x hx=>absurd hx (no x),fun x hx=>absurd hx (no x),fun m hm=>by simp[nt0] at hm,List.Pairwise.nil⟩,rfl,?_,?_⟩
 ·show(4:Nat)<=4;omega
 ·show(0:Int)<=0/\(0:Int)<=549755813888;omega
 ·show(0:Nat)<=48;omega
 ·show(0:Nat)<=64*0;omega
 ·show(0:Nat)<=2*0;omega
end Go.Proofs.YtnicenfgemkdnaaGreatDoor
