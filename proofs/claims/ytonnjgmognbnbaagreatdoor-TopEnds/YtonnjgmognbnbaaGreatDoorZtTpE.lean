/-
  Of what a law stands on.
-/
import Derived.Test.YtonnjgmognbnbaaGreatDoorZtTpX
set_option linter.unusedSimpArgs false
set_option linter.unusedVariables false
namespace Go.Proofs.YtonnjgmognbnbaaGreatDoor
open Go.Value renaming int → I,pointer → V
open Go.IntKind renaming i64 → Z
open _root_.Go.Proofs.Tryz Go.ChangeShapes Go.WideShapes Go.ChangeAt Go.RowKit Go.Maps
set_option maxHeartbeats 16000000
set_option maxRecDepth 100000
variable {ops:Array Oper}{rest:List Oper}{o:Oper}{a:Act}{w:World}{Q:Exit->Act->World->Prop}{s:Nt}
theorem qt9(hgd:o.guard=none)(x:Operand)(ho:o.op=.call { callee:=.builtin .min,args:=#[x,.const (I Z 100)],argTypes:=#[3,3] })(n:Int)(hx:a.eval x=I Z n)(hr:wpList prog ops Q rest (a.put o.dst (I Z (min n 100))) w):wpList prog ops Q (o::rest) a w:=
 wpList_plain hgd fun K hK=>by
  (have e:(if (100:Int)<n then(100:Int) else n)=min n 100:=by split<;>omega);have hz:a.eval (.const (I Z 100))=I Z 100:=rfl
  unfold Oper.wp execOp
  simp only[ho,resolve,invoke,builtin,Sem.run_bind,Sem.run_pure,Result.andThen_ok,List.map_toArray,List.map_cons,List.map_nil,hx,hz,run_min_int2]
  rw[e]
  exact hK _ _ hr
def a00:Ac:=⟨0,0,0,ByteArray.empty⟩
theorem q2l(w:World):(Instr.build 23 #[]).run prog w=.ok (.agg (ac a00)) w:=by kernel_rfl
theorem qvi(hgd:o.guard=none)(ho:o.op=.build 23 #[])(hr:wpList prog ops Q rest (a.put o.dst (.agg (ac a00))) w):wpList prog ops Q (o::rest) a w:=
 wpList_plain hgd fun K hK=>by
  unfold Oper.wp execOp
  simp only[ho,List.map_toArray,List.map_nil,Sem.run_bind,q2l,Result.andThen_ok,Sem.run_pure]
  exact hK _ _ hr
theorem q0h(w:World):(Instr.build 27 #[(0,I Z 6)]).run prog w=.ok (.agg (rc0 6)) w:=by kernel_rfl
theorem qt4{S:World->Prop}(ho:o.op=.build 27 #[(0,.const (I Z 6))])(hw:Region.wanted o (yielded ops a.tmps)=true):YieldsIf prog ops S o (.agg (rc0 6)) a:=
 .inl ⟨hw,fun w _=>by
  have hz:a.eval (.const (I Z 6))=I Z 6:=rfl
  unfold execOp
  simp only[ho,List.map_toArray,List.map_cons,List.map_nil,hz,Sem.run_bind,q0h,Result.andThen_ok,Sem.run_pure]⟩
theorem q9n(w:World):(Op.equalIn 10000 27 (.agg (rc0 6)) (.agg (rc0 6))).run prog w=.ok true w:=by kernel_rfl
theorem q5m(e:Int)(w:World):(Instr.field 27 (.agg (rc0 e)) 0).run prog w=.ok (I Z e) w:=by kernel_rfl
theorem qw9(hgd:o.guard=none)(x:Operand)(ho:o.op=.field 27 x 0)(e:Int)(hx:a.eval x=.agg (rc0 e))(hr:wpList prog ops Q rest (a.put o.dst (I Z e)) w):wpList prog ops Q (o::rest) a w:=
 wpList_plain hgd fun K hK=>by
  unfold Oper.wp execOp
  simp only[ho,hx,Sem.run_bind,q5m,Result.andThen_ok,Sem.run_pure]
  exact hK _ _ hr
theorem q9s(h:s.acts<300):s.act a00=(qas 4,{ s with acts:=s.acts+1 }):=by
 unfold Nt.act
 rw[if_neg om]
 rfl
theorem q6r(h:300<=s.acts)(a:Ac):s.act a=(qas 6,s):=by
 unfold Nt.act
 rw[if_pos h]
theorem q94:a00.ok:=⟨by decide,by decide,by decide,by show ByteArray.empty.size<=_;simp⟩
theorem topEnds_walk(a0:Bool)(sl:Value)(es:List Ac)(a2:Ac)(W:World)(hS:AcIn W sl es)(ha:a2.ok)(hT:Tab W):Calls prog 17 #[.bool a0,sl,.agg (ac a2)] W fun e w'=>e=.returned (.bool true)/\Below W.heap.size W w':=by
 refine m63 ?_;intro HS HT;refine m8e ?_;intro CP;have hinv:=qjr a0 (es.take 100) (by rw[List.length_take];omega);have hkl:(es.take 100).length=min 100 es.length:=List.length_take;obtain⟨x0,cap,hsl⟩:=hS.1.slice;have hnb:=hS.1.len
 generalize es.length=n at *
 subst hsl
 obtain⟨s,hs⟩:∃s,(nt0 a0).runs (es.take 100)=s:=⟨_,rfl⟩
 have HS1:Hid ((nt0 a0).runs (es.take 100)=s):=hs
 rw[hs] at hinv
 generalize(es.take 100).length=k at *
 have HKI:Hid (min (n:Int) 100=(k:Int)):=hidN om;have HK3:Hid (k<=300):=hidN om;have HI:Hid (NInv s k):=hidN hinv;have HA:Hid a2.ok:=hidN ha;clear hS hT hs hinv ha hkl hnb
 go_enter func17,ntmps17
 go_wp2_with (first|((with_reducible refine gB 23 2 ?_);refine bx 23 (.tmp 2) (ac a2) ?_;intro b5 w9 l5 R5 h9;have HB5:Hid (Below W.heap.size W w9):=h9;clear h9)|(go_at_call 23;refine(CP _ HB5.out).mono ?_;rintro e w1 ⟨b,rfl,F,G,hP⟩;clear CP;have N:=hP.nb (L:=[(b5,ob 23 (ac a2))]) HB5.out (fun _ h=>h.elim) zm (fun y hy=>by obtain rfl:=List.mem_singleton.1 hy;exact⟨R5,l5,fun h=>h⟩);clear hP R5;rw[HS1.out] at N)|((with_reducible refine qaa (.call { callee:=.builtin .min,args:=#[.tmp 21,.const (I Z 100)],argTypes:=#[3,3] }) rfl ?_);refine qt9 rfl (.tmp 21) rfl _ rfl ?_;rw[HKI.out]))
 go_loopw [9] (fun i W1=>∃(j:Nat) (t:Nt) (F:Nat->Prop),j<=300/\i=I Z (j:Int)/\NInv t j/\Nb W W1 b t (duF t.fs) (fun _=>False) F [(b5,ob 23 (ac a2))]) (fun i _=>300-(intOf i).toNat)
 case atStart=>exact⟨k,s,_,HK3.out,rfl,HI.out,N⟩
 case round=>
  clear N
  obtain⟨j,t,F,hj,rfl,hI,N⟩:=hrel
  by_cases hlt:j<300
  ·(have hj1:(j:Int)<300:=by omega);have HM:=qha hlt;have hjw:=qhl (p:=j) om;(have CD0:=fun W F (hN:qaw W b t (duF t.fs) F) hT h0=>qos hN hT h0 (hI.ok om) a00 q94);have hI2:=hI.act om a00
   rw[q9s (by rw[hI.acts];exact hlt)] at CD0 hI2
   rw[qdo] at CD0
   have HI2:Hid (NInv { t with acts:=t.acts+1 } (j+1)):=hidN hI2;clear hI2 hI
   go_wp2_with (first|((with_reducible refine qaa (.build 23 #[]) rfl ?_);refine qvi rfl rfl ?_)|(go_at_call 18;refine(CD0 _ _ N.nat (HT.out.gr N.gr id) (N.zero HT.out id)).mono ?_;rintro e w5 ⟨rfl,F9,hN9,hg9,hf9⟩;clear CD0;replace N:=N.call hN9 hg9 hf9;clear hN9 hg9 hf9)|((with_reducible refine qaa (.field 27 (.tmp 29) 0) rfl ?_);refine qw9 rfl (.tmp 29) rfl 4 rfl ?_))
   go_roundw
   case rel=>
    first
     | exact⟨j+1,_,_,by omega,by go_num,HI2.out,N⟩
     | ((repeat apply Exists.intro);exact⟨⟨j+1,_,_,by omega,by go_num,HI2.out,N⟩,rfl⟩)
   case measure=>first|exact HM.out|(rw[hjw];exact HM.out)
  ·(have hj1:¬(j:Int)<300:=by omega);(have hj300:j=300:=by omega)
   subst hj300
   (have CT:=fun W F (hN:qaw W b t (duF t.fs) F)=>qfa hN (by have:=hI.ci.good.len;omega));(have CL:=fun W F (hN:qaw W b t (duF t.fs) F)=>qhb hN);(have CDF:=fun W F (hN:qaw W b t (duF t.fs) F) hT h0=>qos hN hT h0 (hI.ok om) a2 HA.out)
   rw[q6r (by rw[hI.acts];omega)] at CDF
   simp only[qdo] at CDF
   have HWF:Hid (wfF t.f):=hidN (qpn hI.ci.good.pool);have HWH:Hid (wfH t.h):=hidN hI.ci.good.wf;have HKL:Hid ((t.fs.map (·.2)).length<=100000):=hidN (by rw[qx5];have:=hI.ci.few;omega)
   obtain⟨f,hf⟩:∃f,f=t.f:=⟨_,rfl⟩
   obtain⟨g,hg⟩:∃g,g=t.g:=⟨_,rfl⟩
   obtain⟨h,hh⟩:∃h,h=t.h:=⟨_,rfl⟩
   obtain⟨ms,hms⟩:∃ms,ms=t.ms:=⟨_,rfl⟩
   obtain⟨ks,hks⟩:∃ks,ks=t.fs.map (·.2):=⟨_,rfl⟩
   obtain⟨nm,hnm⟩:∃nm,nm=ms.length:=⟨_,rfl⟩
   obtain⟨nk,hnk⟩:∃nk,nk=ks.length:=⟨_,rfl⟩
   have HNK:Hid (nk=ks.length):=hnk;have HNM:Hid (nm=ms.length):=hnm
   rw[←hf,←hg,←hh,←hms,←hnm] at CT
   rw[←hks] at CL HKL
   rw[←hf] at HWF
   rw[←hh] at HWH
   clear hf hg hh hms hks hnm hnk hI hlt hj
   go_upto_region 10 with(first|(go_at_call 21;go_fit (CT _ _ N.nat);rintro e w5 ⟨sa,kc,rfl,hm5,-,hl5,hb5⟩;refine m55 ?_;clear N hb5 hl5;intro HMF N)|(go_at_call 22;go_fit (CL _ _ N.nat);rintro e w5 ⟨v5,rfl,hf5,hb5⟩;refine m3v ?_;clear N hb5 hf5 hm5;intro C N fa fcap hfv;rw[←HNK.out] at hfv;subst hfv)|((with_reducible refine gA 39 ?_);refine ax 10 39 qbp ?_;intro b10 w9 l9 R9 h9;have HM10:Hid (0<ms.length->mb (.slice sa nm kc)≠b10):=hidN (fun h0 e=>by have:=C.maps.lt h0;omega);have HE10:Hid (0<ks.length->eb (.slice fa nk fcap)≠b10):=hidN (fun h0 e=>by have:=C.flows.lt h0;omega);replace N:=N.alloc (o:=ob 39 (tz)) l9 R9 h9;replace C:=C.below h9;clear R9 h9 l9)|((with_reducible refine gS 39 10 33 ?_);refine sx 39 (.tmp 10) _ (tc f g h (.slice sa nm kc)) (N.row 0 rfl) ?_;intro w9 R9 t9;replace N:=N.turn 0 rfl R9 t9;replace C:=C.turn t9 HM10.out HE10.out;clear R9 t9))
   refine m2l ?_;intro kS
   refine RD (fun W=>Row 39 W b10 (tc f g h (.slice sa nm kc))/\Row 23 W b5 (ac a2)) kS (fun _=>?_)
   replace N:=N.drew;replace C:=C.drew
   refine tq 0 (V (some ⟨b,0,none⟩)) rfl kS (tk 1 (.agg (ac a2)) rfl (yx 23 (.tmp 5) (ac a2) (fun _ h=>h.2)) kS (tk 3 (.agg (rc0 6)) rfl (qt4 rfl kr) kS ?_))
   refine m5i ?_;refine AR [2] ?_
   refine AC (fun K hK=>?_) AZ
   go_simp;go_at_call 18;refine(CDF _ _ N.nat (HT.out.gr N.gr id) (N.zero HT.out id)).mono ?_;rintro e w8 ⟨rfl,F9,hN9,hg9,hf9⟩;replace C:=C.call hg9 hf9;replace N:=N.call hN9 hg9 hf9;clear hN9 hg9 hf9;clear kS;refine m2l ?_;intro kS
   go_wp2_with fail
   refine hK.out _ _ kS (fun _=>?_)
   clear hK K;(try simp only[ZZ])
   refine tk 4 (.bool true) rfl (qhd 27 (.tmp 38) (.tmp 39) rfl kr (rc0 6) (rc0 6) kr kr eqGuardType27 _ _ q9n rfl) kS (tq 5 (.bool true) rfl kS (tk 6 (.agg (tc f g h (.slice sa nm kc))) rfl (yx 39 (.tmp 10) (tc f g h (.slice sa nm kc)) (fun _ h=>h.1)) kS ?_))
   refine m5i ?_;refine tq 7 (V (some ⟨b,0,none⟩)) rfl kS ?_;refine m5i ?_;refine AR [8] ?_
   refine AC (fun K hK=>?_) AZ
   go_simp
   go_at_call 21;refine(CT _ _ N.nat).mono ?_;rintro e w8 ⟨sa8,kc8,rfl,hm8,-,-,hb8⟩;replace N:=N.below hb8;replace C:=C.below hb8;clear kS;refine m2l ?_;intro kS;clear hb8
   go_wp2_with fail
   refine hK.out _ _ kS (fun _=>?_)
   clear hK K;(try simp only[ZZ]);refine AR [9] ?_
   refine AC (fun K hK=>?_) AZ
   refine m3p ?_;intro w8 hb8;replace N:=N.below hb8;replace C:=C.below hb8;clear kS;refine m2l ?_;intro kS;clear hb8 hm8
   go_wp2_with fail
   refine hK.out _ _ kS (fun _=>?_)
   clear hK K;(try simp only[ZZ]);refine tq 10 (.bool true) rfl kS (tq 11 (.bool true) rfl kS (tq 12 (.slice fa nk fcap) rfl kS ?_));refine m5i ?_;refine tq 13 (V (some ⟨b,0,none⟩)) rfl kS ?_;refine m5i ?_;refine AR [14] ?_
   refine AC (fun K hK=>?_) AZ
   go_simp
   go_at_call 22;refine(CL _ _ N.nat).mono ?_;rintro e w8 ⟨v8,rfl,hf8,hb8⟩;replace N:=N.below hb8;replace C:=C.below hb8;clear kS;refine m2l ?_;intro kS;have hf9:=hf8.at HKL.out;clear hb8 hf8;obtain⟨fa8,fc8,hfv8⟩:=hf9.slice;rw[←HNK.out] at hfv8;subst hfv8
   go_wp2_with fail
   refine hK.out _ _ kS (fun _=>?_)
   clear hK K;(try simp only[ZZ]);refine AR [15] ?_
   refine AC (fun K hK=>?_) AZ
   refine m4s ?_;intro w8 hb8;replace N:=N.below hb8;replace C:=C.below hb8;clear kS;refine m2l ?_;intro kS;clear hb8 hf9
   go_wp2_with fail
   refine hK.out _ _ kS (fun _=>?_)
   clear hK K;(try simp only[ZZ]);refine tq 16 (.bool true) rfl kS (tq 17 (.bool true) rfl kS ?_);refine m1f ?_
   go_wp2_with fail
   go_ret
   exact⟨rfl,N.gr.below (fun _ h=>h.elim) (Nat.le_refl _)⟩
end Go.Proofs.YtonnjgmognbnbaaGreatDoor
