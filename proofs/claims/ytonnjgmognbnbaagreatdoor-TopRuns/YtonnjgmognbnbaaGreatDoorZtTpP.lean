/-
  Of what a law stands on.
-/
import Derived.Test.YtonnjgmognbnbaaGreatDoorZtTpP0
set_option linter.unusedSimpArgs false
set_option linter.unusedVariables false
namespace Go.Proofs.YtonnjgmognbnbaaGreatDoor
open Go.Value renaming int → I,pointer → V
open Go.IntKind renaming i64 → Z
open _root_.Go.Proofs.Tryz Go.ChangeShapes Go.WideShapes Go.ChangeAt Go.RowKit Go.Maps
set_option maxHeartbeats 16000000
set_option maxRecDepth 100000
theorem Nb.rowGr{W W5 W8:World}{b:Nat}{s:Nt}{tm:Int->Option Int}{F F' G:Nat->Prop}{L:List (Nat×Obj)}{c:Nat}{t:TypeId}{cs:Array Value}(N:Nb W W5 b s tm F F' L)(i:Nat)(hi:L[i]?=some (c,ob t cs))(hg:Gr G W5 W8)(hG:∀c,G c->c<W.heap.size):Row t W8 c cs:=by
 have hm:=List.mem_of_getElem? hi;have h:=N.rows _ hm;have hl:=N.lt (List.mem_map.2 ⟨_,hm,rfl⟩)
 exact(hg.block _ hl (fun hc=>by have:=hG _ hc;have:=h.2.1;omega)).trans h.1
theorem qjr(loose:Bool)(l:List Ac)(hl:l.length<=300):NInv ((nt0 loose).runs l) l.length:=by
 have:=(NInv.new loose).runs l om
 rwa [Nat.zero_add] at this
theorem qus{l:List Ac}{j:Nat}(h:j<=min l.length 100)(hn:¬j<l.length\/¬j<100):l.take j=l.take 100:=by
 rcases hn with h1|h1
 ·rw[List.take_of_length_le om,List.take_of_length_le om]
 ·(rw[show j=100 by omega])
theorem sZtTpP1{p:Prop}(h:p:=by
 rw[e] at P
 clear e
 go_wp2_with fail
 go_ret2
 exact⟨b,rfl,_,_,P⟩):p:=h
theorem qjp{loose:Bool}{lf:FuncId}{caps:Array Value}{J:List Ac->(Nat->Prop)->World->Prop}{G0:Nat->Prop}(LK:Look loose lf caps J)(sl:Value)(es:List Ac)(w:World)(hA:AcAt w sl es)(hok:∀k∈es,k.ok)(hT:Tab w)(h0:¬G0 0)(hJ:J [] G0 w)(hAG:0<es.length->¬G0 (eb sl)):
  Calls prog 23 #[.bool loose,sl,.func (.func lf) #[] caps] w fun e w'=>∃b,e=.returned (.tuple #[V (some ⟨b,0,none⟩),.bool true])/\∃F G,Pl loose J G0 w w' b (es.take 100) F G:=by
 obtain⟨a0,cap,hsl⟩:=hA.slice
 obtain⟨n,hn⟩:∃n,n=es.length:=⟨_,rfl⟩
 rw[←hn] at hsl
 subst hsl
 have HN:Hid (n=es.length):=hn
 obtain⟨M,hM⟩:∃M,M=min n 100:=⟨_,rfl⟩
 have HMM:Hid (M=min n 100):=hM;have CA:=q1b w hT;(have CN:=fun w=>qu0 loose w);clear hn hM
 go_enter func23,ntmps23
 go_wp2_with (first|(go_at_call 49;go_fit CA;rintro e w1 ⟨rfl,hb1⟩;clear CA;have HB1:Hid (Below w.heap.size w w1):=hb1;clear hb1)|(go_at_call 51;go_fit (CN _);rintro e w2 ⟨b,rfl,hlb,hN1,hb2⟩;clear CN;have P:=Pl.start LK hJ hN1 (Nat.le_trans HB1.out.size hlb) (HB1.out.trans (hb2.mono HB1.out.size));clear hlb hN1 hb2))
 go_loopw [9] (fun i W=>∃(j:Nat) (F G:Nat->Prop),j<=M/\i=I Z (j:Int)/\Pl loose J G0 w W b (es.take j) F G) (fun i _=>M-(intOf i).toNat)
 case atStart=>exact⟨0,_,_,Nat.zero_le _,rfl,P⟩
 case round=>
  clear P
  obtain⟨j,F,G,hj,rfl,P⟩:=hrel
  by_cases h1:j<n
  ·(have hj1:(j:Int)<(n:Int):=by omega)
   by_cases h2:j<100
   ·(have hj2:(j:Int)<100:=by omega);(have hlt:j<M:=by have:=HMM.out;omega);(have hjl:j<es.length:=by have:=HN.out;omega);have HM:=qha hlt;have hjw:=qhl (p:=j) om
    obtain⟨x,hx⟩:∃x,es[j]=x:=⟨_,rfl⟩
    refine m6w ?_;intro hxo HL9 hlen hinv
    generalize es.take j=l at *
    have rx:=(hA.keepGr P.gr hAG).at j hjl hx;(have hix:=fun w2=>hA.index j hjl w2);(have hF0:¬F 0:=fun hh=>by have:=P.new 0 hh;have:=hT.lt;omega);have TW:=hT.gr P.gr h0;have N:=P.nat.start;have CD:=qos N.nat TW (fun hh=>hF0 hh.1) (hinv.ok om) x hxo;have hAW:=hA.keepGr P.gr hAG;(have hAF:0<es.length->¬F (eb (.slice a0 n cap)):=fun hh hf=>by have:=P.new _ hf;have:=hA.lt hh;omega);(have CL:=fun W' F' L (N:Nb _ W' b (((nt0 loose).runs l).act x).2 (duF (((nt0 loose).runs l).act x).2.fs) F F' L)=>LK.call (l:=l) (a:=x) om hxo N.nat (TW.gr N.gr hF0) (fun hh=>by rcases N.sub 0 hh with h3|h3;exact hF0 h3;have:=TW.lt;omega) (P.other LK N) (P.look LK N))
    go_upto_region 8 with(first|((with_reducible refine gL 23 28 ?_);refine wpList_load_mid rfl 23 (.tmp 28) rfl _ _ rfl (acl x) _ rx underlying23 rfl (qv8 _) ?_;rw[q9l])|(go_at_call 18;refine CD.mono ?_;rintro e w5 ⟨rfl,F9,hN9,hg9,hf9⟩;clear CD rx;replace N:=N.call hN9 hg9 hf9;clear hN9 hg9 hf9)|((with_reducible refine gA 27 ?_);refine ax 10 27 qan ?_;intro b10 w9 l9 R9 h9;refine m3q ?_;clear N;intro N;clear R9 h9 l9)|((with_reducible refine gS 27 10 30 ?_);refine sx 27 (.tmp 10) _ ((((nt0 loose).runs l).act x).1.cells) (N.row 0 rfl) ?_;refine m0j ?_;clear N;intro w9 N))
    have kS:World.rangeAt _ (eb (.slice a0 n cap)) (eo (.slice a0 n cap)+4*j) (acl x)/\Row 27 _ b10 (((nt0 loose).runs l).act x).1.cells:=⟨(hAW.keepGr N.gr hAF).at j hjl hx,N.row 0 rfl⟩
    refine RD (fun W=>W.rangeAt (eb (.slice a0 n cap)) (eo (.slice a0 n cap)+4*j) (acl x)/\Row 27 W b10 (((nt0 loose).runs l).act x).1.cells) kS (fun _=>?_)
    refine tq 0 (.func (.func lf) #[] caps) rfl kS (tq 1 (V (some ⟨b,0,none⟩)) rfl kS (tq 2 (.slice a0 n cap) rfl kS ?_))
    refine m5i ?_
    refine tq 3 (I Z (j:Int)) rfl kS (tk 4 (V (some ⟨eb (.slice a0 n cap),eo (.slice a0 n cap)+4*j,none⟩)) rfl (qgk 44 (.tmp 33) (.tmp 34) rfl kr _ _ _ kr kr hix) kS (tk 5 (.agg (acl x).toArray) rfl (qgw 23 (.tmp 35) rfl kr _ _ kr (acl x) (fun _ h=>h.1) _ underlying23 rfl (qv8 x)) kS ?_))
    refine m5i ?_
    refine tk 6 (.agg (((nt0 loose).runs l).act x).1.cells) rfl (yx 27 (.tmp 10) (((nt0 loose).runs l).act x).1.cells (fun _ h=>h.2)) kS ?_
    refine m5i ?_;refine AR [7] ?_
    refine AP (fun K hK=>?_) AZ
    refine q55 (.tmp 31) _ _ rfl lf caps #[V (some ⟨b,0,none⟩),.agg (ac x),.agg (((nt0 loose).runs l).act x).1.cells] kr (by simp only[List.map_toArray,List.map_cons,List.map_nil];kernel_rfl) LK.enters ?_;(first|refine(CL _ _ _ N).mono ?_|(replace N:=N.drew;refine(CL _ _ _ N).mono ?_));rintro e w8 ⟨rfl,G8,hJ8,hg8,hG8⟩;have P8:=P.step LK N hJ8 hg8 hG8;clear kS;have kS:World.rangeAt w8 (eb (.slice a0 n cap)) (eo (.slice a0 n cap)+4*j) (acl x)/\Row 27 w8 b10 (((nt0 loose).runs l).act x).1.cells:=⟨(hA.keepGr P8.gr hAG).at j hjl hx,N.rowGr 0 rfl hg8 (LK.bd P.j)⟩;clear hJ8 hg8 hG8;refine⟨_,rfl,?_⟩
    refine hK.out _ _ kS (fun _=>?_)
    clear hK K;(try simp only[ZZ]);refine tq 8 (.bool false) rfl kS ?_;refine m1f ?_;have P9:=HL9.out▸P8;clear P8 P N kS
    go_wp2_with fail
    go_roundw
    case rel=>
     first
      | exact⟨j+1,_,_,by omega,by go_num,P9⟩
      | ((repeat apply Exists.intro);exact⟨⟨j+1,_,_,by omega,by go_num,P9⟩,rfl⟩)
    case measure=>first|exact HM.out|(rw[hjw];exact HM.out)
   ·(have hj2:¬(j:Int)<100:=by omega);have e:=qus (l:=es) (j:=j) (by have:=HMM.out;have:=HN.out;omega) (.inr h2)
    exact sZtTpP1
  ·(have hj1:¬(j:Int)<(n:Int):=by omega);have e:=qus (l:=es) (j:=j) (by have:=HMM.out;have:=HN.out;omega) (.inl (by have:=HN.out;omega))
   exact sZtTpP1
theorem qq7(loose:Bool):Look loose 36 #[] (fun _ G _=>∀c,¬G c):=by
 refine⟨fun args w=>by kernel_rfl,fun h _ _=>h,fun h c hc=>absurd hc (h c),?_⟩
 intro l a W b F G _ _ _ _ _ _ hG
 generalize(((nt0 loose).runs l).act a).1=r
 have hB:=Below.refl W.heap.size W
 show Calls prog 36 #[V (some ⟨b,0,none⟩),.agg (ac a),.agg r.cells] W _
 go_enter func36,ntmps36
 go_wp2_with (first|((with_reducible refine gB 23 1 ?_);refine m4v ?_;intro b4 w9 l9 R9 h9;replace hB:=hB.trans (h9.mono hB.size);clear R9 h9 l9)|((with_reducible refine gB 27 2 ?_);refine bx 27 (.tmp 2) r.cells ?_;intro b5 w9 l9 R9 h9;replace hB:=hB.trans (h9.mono hB.size);clear R9 h9 l9))
 go_ret
 exact⟨rfl,G,hG,Gr.of_below hB,fun c hc=>.inl hc⟩
end Go.Proofs.YtonnjgmognbnbaaGreatDoor
