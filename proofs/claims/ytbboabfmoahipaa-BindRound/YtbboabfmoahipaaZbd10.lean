/-
  Of what a law stands on.
-/
import Derived.Test.YtbboabfmoahipaaZbd9
set_option linter.unusedSimpArgs false
set_option linter.unusedVariables false
namespace Go.Proofs.Ytbboabfmoahipaa
open Go.Value renaming int → I,pointer → V
open Go.IntKind renaming i64 → Z
open _root_.Go.Proofs.Try Go.ChangeShapes Go.WideShapes Go.ChangeAt Go.RowKit
set_option maxHeartbeats 16000000
set_option maxRecDepth 100000
variable {d i p s:Int}{ops:Array Oper}{rest:List Oper}{o:Oper}{a aN b10 b11 b14 b15 b21 b5 cap cv j n:Nat}{W w wr:World}{Q:Exit->Act->World->Prop}{L:List (Nat×TypeId×Array Value)}{v:Value}{D ms:List Mp}{f h:Nat->Int}{g q:Nat->Bool}{a0 av:Option Addr}
section
open Go.Maps
theorem sZbd101{p:Prop}(h:p:=by
 go_roundw
 case rel=>first|exact⟨k+1,hk6,qj2b k,_,HNH3,G'⟩|exact⟨k+1,hk6,qj0b hkw,_,HNH3,G'⟩
 case measure=>(first|rw[hkw]|skip);exact HME.out):p:=h
theorem qkxb(f:Nat->Int)(g:Nat->Bool)(h:Nat->Int)(sl:Value)(ms:List Mp)(hwH:wfH h)(w:World)(hM:qaz w sl ms)(GG:Hid (qbq f h ms)):
  Calls prog 17 #[.agg (tc f g h sl)] w fun e w'=>∃r:Bool,(r=true↔qbq f h ms)/\e=.returned (.bool r)/\Below w.heap.size w w':=by
 have G:=Gm.start (Bd.start w);have hM0:=hM
 obtain⟨a0,cap,hsl,-⟩:=hM0
 obtain⟨n,hn⟩:∃n,n=ms.length:=⟨_,rfl⟩
 rw[←hn] at hsl
 subst hsl
 have HN:Hid (n=ms.length):=hn;clear hn;(have CG:=fun w=>qlyb f g w)
 unfold plv at CG
 have hgp:qcv f=true:=GG.out.pool
 rw[hgp] at CG
 have HGP:Hid (qcv f=true):=hgp
 go_enter func17,ntmps17
 go_wp2_with (first|((with_reducible refine gB 30 0 ?_);refine m0v ?_;intro b1 w9 l9 R9 h9;replace G:=G.alloc l9 R9 h9;clear R9 h9 l9)|((with_reducible refine gL 26 19 ?_);refine m1u ?_)|(go_at_call 37;refine(CG _).mono ?_;rintro e w5 ⟨rfl,hb5⟩;replace G:=G.below hb5;clear hb5)|((with_reducible refine qaa (.makeMap 70 none) rfl ?_);refine qlbb 70 rfl rfl ?_;intro b3 hb9;have G9:=G.newB 76 k3 ok3;rw[←hb9] at G9;clear G hb9;have G:=G9;clear G9)|((with_reducible refine qaa (.makeMap 71 none) rfl ?_);refine qlbb 71 rfl rfl ?_;intro b4 hb9;have G9:=G.newB 78 k3 ok3;rw[←hb9] at G9;clear G hb9;have G:=G9;clear G9)|((with_reducible refine qaa (.makeMap 72 none) rfl ?_);refine qlbb 72 rfl rfl ?_;intro b5 hb9;have G9:=G.newI 79 k2 ok2;rw[←hb9] at G9;clear G hb9;have G:=G9;clear G9)|((with_reducible refine qaa (.makeMap 73 none) rfl ?_);refine qlbb 73 rfl rfl ?_;intro b6 hb9;have G9:=G.newI 3 k1v wf6;rw[←hb9] at G9;clear G hb9;have G:=G9;clear G9;have cM:World.cell? _ ⟨b1,29,none⟩=some (.slice a0 n cap):=((G.bd.row 0 rfl).cell 29).trans (qdw _ _ _ _)))
 clear cM
 refine wp_loop (WG w f g h ms b1 b3 b4 b5 b6 a0 n cap) (WGmu n) ?_ ?_
 ·unfold WG
  (repeat apply Exists.intro)
  refine⟨?_,rfl⟩
  exact⟨0,Nat.zero_le _,rfl,qvg f h,0,0,0,0,⟨by omega,by omega,by omega,by omega⟩,G⟩
 ·clear G;intro a W hI
  unfold WG at hI
  iterate 195 (obtain⟨_,hI⟩:=hI)
  obtain⟨hrel,rfl⟩:=hI
  obtain⟨j,hj,rfl,HK,n6,n5,n4,n3,HNs,G⟩:=hrel
  by_cases hlj:j<ms.length
  ·obtain⟨m,hm⟩:∃m,ms[j]=m:=⟨_,rfl⟩
   have hst:qdb f h ms[j]/\qc0 (ms.take j) ms[j]=false:=by
    have:=qorb GG.out.maps (j+1)
    rw[List.take_succ_eq_append_getElem hlj,qof] at this
    exact this.2
   rw[hm,qmyb] at hst
   have e34:=hst.2
   simp only[Bool.or_eq_false_iff] at e34
   exact qrob _ _ _ _ _ _ _ _ _ _ _ _ _ _ _ _ _ _ _ _ _ _ _ _ _ _ _ _ _ _ _ _ _ _ _ _ _ _ _ _ _ _ _ _ _ _ _ _ _ _ _ _ _ _ _ _ _ _ _ _ _ _ _ _ _ _ _ _ _ _ _ _ _ _ _ _ _ _ _ _ _ _ _ _ _ _ _ _ _ _ _ _ _ _ _ _ _ _ _ _ _ _ _ _ _ _ _ _ _ _ _ _ _ _ _ _ _ _ _ _ _ _ _ _ _ _ _ _ _ _ _ _ _ _ _ _ _ _ _ _ _ _ _ _ _ _ _ _ _ _ _ _ _ _ _ _ _ _ _ _ _ _ _ _ _ _ _ _ _ _ _ _ _ _ _ _ _ _ _ _ _ _ _ _ _ _ _ _ _ _ _ _ _ _ j HNs G HK HN hM hwH hgp hlj m hm (qo2b hst.1) e34.2 e34.1 hst.1.2.2.2.2.2.1 hst.1.2.2.2.2.2.2 _ (fun a w' h=>h)
  ·(have hje:j=ms.length:=by omega);(have hjn:¬(j:Int)<(n:Int):=by have:=HN.out;omega)
   rw[hje,List.take_length] at G
   clear hje hlj HK HNs hj
   go_wp2_with (first|((with_reducible refine qaa (.makeMap 73 none) rfl ?_);refine qlbb 73 rfl rfl ?_;intro b14 hb9;have G9:=G.newI 3 k1v wf6;rw[←hb9] at G9;clear G hb9;have G:=G9;clear G9))
   go_loopw [146] (fun v W=>∃a:Nat,a<=3/\v=I Z (a:Int)/\∃nh:Nat,Hid (nh<=6*a)/\Gm w W [(b1,30,tc f g h (.slice a0 n cap))] [] (entI 3 k1v wf6 b14 nh (hadF f (6*a)) :: [entI 3 k1v wf6 b6 n6 (nOf ms),entI 79 k2 ok2 b5 n5 (nPl ms),entB 78 k3 ok3 b4 n4 (sIn ms),entB 76 k3 ok3 b3 n3 (sOut ms)])) (fun v _=>3-(intOf v).toNat)
   case atStart=>exact⟨0,by omega,rfl,0,hidB om,G⟩
   case round=>
    clear G
    obtain⟨a,ha,rfl,nh,HNH,G⟩:=hrel
    by_cases ha3:a<3
    ·(have hac:(a:Int)<3:=by omega);(have haw:wrap64 ((a:Int)+1)=(a:Int)+1:=by unfold wrap64;omega);have HMA:Hid (3-((a:Int)+1).toNat<3-((a:Int)).toNat):=hidB om
     go_wp2
     go_loopw [149] (fun v W=>∃k:Nat,k<=6/\v=I Z (k:Int)/\∃nh:Nat,Hid (nh<=6*a+k)/\Gm w W [(b1,30,tc f g h (.slice a0 n cap))] [] (entI 3 k1v wf6 b14 nh (hadF f (6*a+k)) :: [entI 3 k1v wf6 b6 n6 (nOf ms),entI 79 k2 ok2 b5 n5 (nPl ms),entB 78 k3 ok3 b4 n4 (sIn ms),entB 76 k3 ok3 b3 n3 (sOut ms)])) (fun v _=>6-(intOf v).toNat)
     case atStart=>exact⟨0,by omega,rfl,nh,HNH,G⟩
     case round=>
      clear G HNH nh
      obtain⟨k,hk,rfl,nh,HNH,G⟩:=hrel
      by_cases hk6:k<6
      ·refine m0y ?_;intro hkc hkw H18 hfb IA IB HTW hbt hdv HDB;have hdb:=HDB.out.1 ((qmab.1 GG.out).2.2.1 _ H18.out);have HME:Hid (6-((k:Int)+1).toNat<6-((k:Int)).toNat):=hidB om
       by_cases o0:0<f (6*a+k)
       ·refine m1f ?_;intro g1 hw1 HOW hw2 HYH HBH HUP HNH3;have c0:0<nPl ms ((a:Int),(k:Int)):=hdb.1 o0;(have g2:decide (0<nPl ms ((a:Int),(k:Int)))=true:=by simpa using c0);clear c0 o0 hfb hdv hdb
        go_wp2_with (first|((with_reducible refine gL 3 157 ?_);refine m1v ?_)|((with_reducible refine qaa (.lookup 72 (.tmp 168) (.tmp 171) false) rfl ?_);refine m0d ?_)|((with_reducible refine qaa (.lookup 73 (.tmp 161) (.tmp 163) false) rfl ?_);refine m17 ?_)|((with_reducible refine qaa (.mapUpdate 73 (.tmp 161) (.tmp 163) (.tmp 165)) rfl ?_);refine m0r ?_;clear G;intro w9 G))
        have G':Gm w _ [(b1,30,tc f g h (.slice a0 n cap))] [] (entI 3 k1v wf6 b14 (nh+1) (updX (hadF f (6*a+k)) (f (6*a+k)-1) (hadF f (6*a+k) (f (6*a+k)-1)+1)) :: [entI 3 k1v wf6 b6 n6 (nOf ms),entI 79 k2 ok2 b5 n5 (nPl ms),entB 78 k3 ok3 b4 n4 (sIn ms),entB 76 k3 ok3 b3 n3 (sOut ms)]):=G
        rw[HUP.out] at G'
        exact sZbd101
       ·refine m5o ?_;intro g1 HUP HNH3;(have c0:¬0<nPl ms ((a:Int),(k:Int)):=fun h=>o0 (hdb.2 h));(have g2:decide (0<nPl ms ((a:Int),(k:Int)))=false:=by simpa using c0);clear c0 o0 hfb hdv hdb
        go_wp2_with (first|((with_reducible refine gL 3 157 ?_);refine m1v ?_)|((with_reducible refine qaa (.lookup 72 (.tmp 168) (.tmp 171) false) rfl ?_);refine m0d ?_))
        have G':Gm w _ [(b1,30,tc f g h (.slice a0 n cap))] [] (entI 3 k1v wf6 b14 nh (hadF f (6*a+k)) :: [entI 3 k1v wf6 b6 n6 (nOf ms),entI 79 k2 ok2 b5 n5 (nPl ms),entB 78 k3 ok3 b4 n4 (sIn ms),entB 76 k3 ok3 b3 n3 (sOut ms)]):=G
        rw[←HUP.out] at G'
        exact sZbd101
      ·(have hk7:k=6:=by omega)
       subst hk7
       have HNH3:Hid (nh<=6*(a+1)):=hidB (by have:=HNH.out;omega)
       go_wp2
       go_roundw
       case rel=>first|exact⟨a+1,by omega,qj2b a,nh,HNH3,G⟩|exact⟨a+1,by omega,qj0b haw,nh,HNH3,G⟩
       case measure=>(first|rw[haw]|skip);exact HMA.out
    ·(have ha4:a=3:=by omega)
     subst ha4
     go_wp2
     go_loopw [177] (fun v W=>∃s:Nat,s<=8/\v=I Z (s:Int)/\Gm w W [(b1,30,tc f g h (.slice a0 n cap))] [] (entI 3 k1v wf6 b14 nh (hadF f (18)) :: [entI 3 k1v wf6 b6 n6 (nOf ms),entI 79 k2 ok2 b5 n5 (nPl ms),entB 78 k3 ok3 b4 n4 (sIn ms),entB 76 k3 ok3 b3 n3 (sOut ms)])) (fun v _=>8-(intOf v).toNat)
     case atStart=>exact⟨0,by omega,rfl,G⟩
     case round=>
      clear G
      obtain⟨s,hs,rfl,G⟩:=hrel
      by_cases hs8:s<8
      ·(have hsc:(s:Int)<8:=by omega);(have hsw:wrap64 ((s:Int)+1)=(s:Int)+1:=by unfold wrap64;omega);have HS8:Hid (s<8):=hs8;have HSW:Hid (wf6 (s:Int)):=hidB (qkcb om);have hdh:=(qmab.1 GG.out).2.2.2 s hs8;have HME:Hid (8-((s:Int)+1).toNat<8-((s:Int)).toNat):=hidB om
       obtain⟨e1,he1⟩:∃b,(h s==0)=b:=⟨_,rfl⟩
       obtain⟨e2,he2⟩:∃b,(hadF f 18 (s:Int)==0)=b:=⟨_,rfl⟩
       refine m5c ?_;intro E1 E2 H12;clear he1 he2;(have c1:¬2<hadF f 18 (s:Int):=by have:=hdh.1;omega);have C1:Hid (decide (2<hadF f 18 (s:Int))=false):=hidB (by simpa using c1);(have c2:¬12<nOf ms (s:Int):=by have:=hdh.2.1;omega);have C2:Hid (decide (12<nOf ms (s:Int))=false):=hidB (by simpa using c2)
       have c3:e1=e2:=by
        have h1:=H12.out.1;have h2:=H12.out.2;have h3:=hdh.2.2
        cases e1<;>cases e2<;>simp_all
       have C3:Hid ((e1 != e2)=false):=hidB (by simpa using c3);clear c1 c2 c3 hdh
       go_upto_region 36 with(fail)
       refine RD (fun W=>Gm w W [(b1,30,tc f g h (.slice a0 n cap))] [] (entI 3 k1v wf6 b14 nh (hadF f (18)) :: [entI 3 k1v wf6 b6 n6 (nOf ms),entI 79 k2 ok2 b5 n5 (nPl ms),entB 78 k3 ok3 b4 n4 (sIn ms),entB 76 k3 ok3 b3 n3 (sOut ms)])) (by first|exact G|exact G.drew) (fun _=>?_)
       refine tq 0 (.map (some b14)) rfl (by first|exact G|exact G.drew) (tq 1 (I Z (s:Int)) rfl (by first|exact G|exact G.drew) (tk 2 (I Z (hadF f 18 (s:Int))) rfl (qlcb 73 (.tmp 180) (.tmp 181) rfl kr (.map (some b14)) (k1v (s:Int)) _ kr kr (fun w h=>(MeI.look (h.ent 0 rfl) qlib underlying73 (s:Int) HSW.out).1)) (by first|exact G|exact G.drew) ?_))
       refine m0u ?_
       refine tq 6 (I Z (s:Int)) rfl (by first|exact G|exact G.drew) (tk 7 (I Z (nOf ms (s:Int))) rfl (qlcb 73 (.tmp 185) (.tmp 186) rfl kr (.map (some b6)) (k1v (s:Int)) _ kr kr (fun w h=>(MeI.look (h.ent 1 rfl) qlib underlying73 (s:Int) HSW.out).1)) (by first|exact G|exact G.drew) (tk 8 (.bool false) rfl (qmrb (.tmp 187) 12 rfl kr _ _ kr C2.out) (by first|exact G|exact G.drew) ?_))
       refine m16 ?_
       refine tq 12 (V (some ⟨b1,21,none⟩)) rfl (by first|exact G|exact G.drew) (tk 13 (V (some ⟨b1,21+s,none⟩)) rfl (qleb 27 (.tmp 192) (.tmp 191) rfl kr _ _ _ kr kr (fun w=>ix8 b1 21 s HS8.out w)) (by first|exact G|exact G.drew) (tk 14 (I Z (h s)) rfl (Or.inl ⟨by kernel_rfl,by intro w hS;have hc:=((hS.bd.row 0 rfl).cell (21+s)).trans (qhc _ _ _ _ s HS8.out);go_simp⟩) (by first|exact G|exact G.drew) ?_))
       refine m12 ?_
       refine tk 18 (I Z (hadF f 18 (s:Int))) rfl (qlcb 73 (.tmp 196) (.tmp 197) rfl kr (.map (some b14)) (k1v (s:Int)) _ kr kr (fun w h=>(MeI.look (h.ent 0 rfl) qlib underlying73 (s:Int) HSW.out).1)) (by first|exact G|exact G.drew) (tk 19 (.bool e2) rfl (qmnb 3 (.tmp 198) (.const (I Z 0)) _ _ _ rfl kr kr kr E2.out) (by first|exact G|exact G.drew) (tk 20 (.bool false) rfl (qolb (.tmp 195) (.tmp 199) _ _ _ rfl kr kr kr C3.out) (by first|exact G|exact G.drew) ?_))
       refine m55 ?_;refine m2c ?_;replace G:=G.drew
       go_wp2
       go_roundw
       case rel=>first|exact⟨s+1,HS8.out,qj2b s,G⟩|exact⟨s+1,HS8.out,qj0b hsw,G⟩
       case measure=>(first|rw[hsw]|skip);exact HME.out
      ·(have hs9:s=8:=by omega)
       subst hs9
       go_wp2
       go_ret
       first|exact⟨true,⟨fun _=>GG.out,fun _=>rfl⟩,rfl,G.bd.base⟩
end
theorem qoib:prog.built 32 []=some (mc noM):=by kernel_rfl
theorem qkmb{a:Act}(hgd:o.guard=none)(ho:o.op=.build 32 #[])(hr:wpList prog ops Q rest (a.put o.dst (.agg (mc noM))) w):wpList prog ops Q (o::rest) a w:=
 wpList_plain hgd fun K hK=>by
  have hb:=run_build (P:=prog) w 32 #[] _ qoib
  unfold Oper.wp execOp
  simp only[ho,List.map_toArray,List.map_nil,Sem.run_bind,hb,Result.andThen_ok,Sem.run_pure]
  exact hK _ _ hr
theorem qp6b(x y z u v:Int)(w:World):(Instr.build 32 #[(0,I Z x),(1,I Z y),(2,I Z z),(3,I Z u),(4,I Z v)]).run prog w=.ok (.agg (mc (x,y,z,u,v))) w:=by kernel_rfl
theorem qkob{a:Act}(hgd:o.guard=none)(p q r s t:Operand)(ho:o.op=.build 32 #[(0,p),(1,q),(2,r),(3,s),(4,t)])(x y z u v:Int)(h1:a.eval p=I Z x)(h2:a.eval q=I Z y)(h3:a.eval r=I Z z)(h4:a.eval s=I Z u)(h5:a.eval t=I Z v)(hr:wpList prog ops Q rest (a.put o.dst (.agg (mc (x,y,z,u,v)))) w):wpList prog ops Q (o::rest) a w:=
 wpList_plain hgd fun K hK=>by
  unfold Oper.wp execOp
  simp only[ho,List.map_toArray,List.map_cons,List.map_nil,h1,h2,h3,h4,h5,Sem.run_bind,qp6b,Result.andThen_ok,Sem.run_pure]
  exact hK _ _ hr
theorem Bd.ownNew{w2:World}(h:Bd w W L [])(hown:w2.ownsRow W.heap.size 32 5 v D.length (flat D))(hb:Below W.heap.size W w2):Bo w w2 L v D:=by
 refine⟨h.below hb,⟨hown.1,?_⟩,fun b hbm=>?_⟩
 ·rcases hown.2 with e|⟨b,cap,cur,hv,hbb,r⟩
  ·exact .inl e
  ·exact .inr ⟨b,cap,cur,hv,Nat.le_trans h.base.size hbb,r⟩
 ·rcases hown.2 with⟨e,_⟩|⟨b',cap,cur,hv,hbb,r⟩
  ·rw[e];simp[Value.ownBlock]
  ·rw[hv];intro e2;have e3:b'=b:=Option.some.inj e2
   have:=h.lt hbm
   omega
theorem Bd.tail{Ms:List (Value×List Mp)}{y:Nat×TypeId×Array Value}(h:Bd w W (y::L) Ms):Bd w W L Ms:=
 ⟨(List.nodup_cons.1 (by simpa using h.nodup)).2,fun z hz=>h.rows z (List.mem_cons_of_mem _ hz),fun q hq=>⟨(h.maps q hq).1,fun b hb=>(h.maps q hq).2 b (by rw[List.map_cons];exact List.mem_cons_of_mem _ hb)⟩,h.base⟩
theorem Bo.drew(h:Bo w W L v D):Bo w W.drew L v D:=h.below (Below.refl _ _).drew
theorem qlxb(f:Nat->Int)(g:Nat->Bool)(h:Nat->Int)(sl:Value)(ms:List Mp)(hno:qcs sl)(hln:ms.length<=3518437208883)(w:World)(hM:qaz w sl ms):
  Calls prog 10 #[.agg (tc f g h sl)] w fun e w'=>∃v,e=.returned (.agg (tc f g h v))/\w'.ownsRow w.heap.size 32 5 v ms.length (flat ms)/\Below w.heap.size w w':=by
 have B:=Bd.start w;obtain⟨i0,hi,hz0,hz1,hz2⟩:=info_parts qnm;have hM0:=hM
 obtain⟨a0,cap,hsl,ha0,-⟩:=hM0
 obtain⟨n,hn⟩:∃n,n=ms.length:=⟨_,rfl⟩
 have HN:Hid (n=ms.length):=hn
 rw[←hn] at hsl
 have hlt:=hM.lt;have HLM:Hid (ms.length<=140737488355328):=hM.len;have HLN:Hid (n<=3518437208883):=hidB (by rw[hn];exact hln);clear hln
 cases a0 with
 | none=>
  obtain rfl:cap=0:=hno _ _ hsl
  have n0:ms.length=0:=by
   by_cases h:0<ms.length
   ·have:=ha0 h;simp at this
   ·omega
  have hms:ms=[]:=List.eq_nil_of_length_eq_zero n0
  obtain rfl:n=0:=hn.trans n0
  subst hsl hms
  clear ha0 hn n0 HLM HLN hno hlt hM HN
  go_enter func10,ntmps10
  go_wp2_with (first|((with_reducible refine gB 30 0 ?_);refine m0v ?_;intro b1 w9 l9 R9 h9;replace B:=B.alloc l9 R9 h9;clear R9 h9 l9)|((with_reducible refine gA 30 ?_);refine ax 2 30 qb8 ?_;refine m3x ?_;clear B;intro b2 w9 B;have cM:World.cell? _ ⟨b1,29,none⟩=some (.slice none 0 0):=((B.row 1 rfl).cell 29).trans (qdw _ _ _ _))|((with_reducible refine qaa (.call { callee:=.builtin .append,args:=#[.const (.slice none 0 0),.tmp 4],argTypes:=#[28,28] }) rfl ?_);refine m3p ?_;clear cM)|((with_reducible refine gS 28 6 5 ?_);refine m6i ?_;refine m20 ?_;clear B;intro w9 B)|((with_reducible refine gL 30 1 ?_);refine lx 30 (.tmp 1) (tc f g h (.slice none 0 0)) (B.row 1 rfl) ?_)|((with_reducible refine gS 30 2 7 ?_);refine m4m ?_;refine m09 ?_;clear B;intro w9 B))
  exact bodyPost_ret (qai rfl _ _ b2 _ rfl (B.row 0 rfl) _ underlying30 rfl (qaq _ _ _ _)) rfl ⟨_,rfl,by simpa[flat] using World.ownsRow_nil _ _ _ _,B.base⟩
 | some ad=>
  have src:∀ {W:World},Below w.heap.size w W->∀k u,(flat ms)[k]?=some u->W.cell? (ad.add k)=some u:=by
   intro W hb k u hu;refine m4g ?_;intro hk;have had:ad=⟨mb sl,mo sl,none⟩:=Option.some.inj (ha0 om);rw[had,Addr.add_lit]
   refine qrv (fun j hj=>?_) k u hu
   exact(hM.keep hb hlt).at j hj rfl
  subst hsl
  clear ha0 hn hno
  go_enter func10,ntmps10
  go_wp2_with (first|((with_reducible refine gB 30 0 ?_);refine m0v ?_;intro b1 w9 l9 R9 h9;replace B:=B.alloc l9 R9 h9;clear R9 h9 l9)|((with_reducible refine gA 30 ?_);refine ax 2 30 qb8 ?_;refine m3x ?_;clear B;intro b2 w9 B;have cM:World.cell? _ ⟨b1,29,none⟩=some (.slice (some ad) n cap):=((B.row 1 rfl).cell 29).trans (qdw _ _ _ _))|((with_reducible refine qaa (.call { callee:=.builtin .append,args:=#[.const (.slice none 0 0),.tmp 4],argTypes:=#[28,28] }) rfl ?_);refine m1z ?_;intro v2 w2 hown2 hg2 hn2;clear hn2 cM;simp only[Nat.zero_add,List.nil_append] at hown2;rw[HN.out] at hown2;replace B:=B.ownNew hown2 (qomb hg2);obtain⟨av,cv,hv5⟩:=qkx hown2;clear hown2 hg2;rw[←HN.out] at hv5;subst hv5)|((with_reducible refine gS 28 6 5 ?_);refine m6l ?_;refine m20 ?_;clear B;intro w9 B)|((with_reducible refine gL 30 1 ?_);refine lx 30 (.tmp 1) (tc f g h (.slice av n cv)) (B.row 1 rfl) ?_)|((with_reducible refine gS 30 2 7 ?_);refine m4o ?_;refine m09 ?_;clear B;intro w9 B))
  refine bodyPost_ret (qai rfl _ _ b2 _ rfl (B.row 0 rfl) _ underlying30 rfl (qaq _ _ _ _)) rfl ⟨_,rfl,B.own,B.base⟩
theorem qnub(f:Nat->Int)(g:Nat->Bool)(h:Nat->Int)(sl:Value)(ms:List Mp)(p s i d:Int)(hwH:wfH h)(hP:qjy f h ms p s i)(m:Mp)(hf:ms.find? (inS p s i)=some m)(w:World)(hM:qaz w sl ms):
  Calls prog 20 #[.agg (tc f g h sl),I Z p,I Z s,I Z i,I Z d] w fun e w'=>e=.returned (qpm f g h sl m false 0)/\Below w.heap.size w w':=by
 unfold qpm
 have B:=Bd.start w;have hM0:=hM
 obtain⟨a0,cap,hsl,-⟩:=hM0
 obtain⟨n,hn⟩:∃n,n=ms.length:=⟨_,rfl⟩
 have HN:Hid (n=ms.length):=hn
 rw[←hn] at hsl
 subst hsl
 clear hn;refine m2a ?_;intro hlt CI G hp hs hi CG HG
 rw[hp] at CI
 refine m10 ?_;intro d1 d2 d3 d4 CF
 rw[hf] at CF
 unfold qhw at CF
 clear G hp hs hi hf
 go_enter func20,ntmps20
 go_upto_region 6 with(first|((with_reducible refine gB 30 0 ?_);refine m0v ?_;refine m4e ?_;clear B;intro b5 w9 B)|((with_reducible refine gA 30 ?_);refine m2o ?_;clear B;intro b10 w9 B)|((with_reducible refine gA 32 ?_);refine m1e ?_;clear B;intro b11 w9 B)|((with_reducible refine qaa (.build 32 #[]) rfl ?_);refine qkmb rfl rfl ?_)|((with_reducible refine gA 32 ?_);refine m15 ?_;clear B;intro b14 w9 B)|((with_reducible refine gS 32 14 35 ?_);refine m2y ?_;refine m09 ?_;clear B;intro w9 B)|((with_reducible refine gL 30 5 ?_);refine m1q ?_)|(go_at_call 17;refine m3k ?_;rintro e w5 ⟨r,hr,rfl,hb5⟩;obtain rfl:r=true:=(hr.2 HG.out);clear hr;replace B:=B.below hb5;clear hb5)|(go_at_call 38;go_fit (CI _);refine m03 ?_)|(go_at_call 11;go_fit (CF _ (hM.keep B.base hlt));refine m0w ?_;clear B;intro w5 B)|((with_reducible refine gA 32 ?_);refine m3q ?_;clear B;intro b15 w9 B)|((with_reducible refine gS 32 15 68 ?_);refine sx 32 (.tmp 15) _ (mc m) (B.row 0 rfl) ?_;refine m09 ?_;clear B;intro w9 B))
 have RT:Row 30 _ b5 (tc f g h (.slice a0 n cap)):=B.row 4 rfl;have RM:Row 32 _ b15 (mc m):=B.row 0 rfl
 refine RD (fun W=>Row 30 W b5 (tc f g h (.slice a0 n cap))/\Row 32 W b15 (mc m)) ⟨RT,RM⟩ (fun _=>?_)
 refine tk 0 (.agg (tc f g h (.slice a0 n cap))) rfl (yx 30 (.tmp 5) (tc f g h (.slice a0 n cap)) (fun _ h=>h.1)) ⟨RT,RM⟩ (tk 1 (.agg (mc m)) rfl (yx 32 (.tmp 15) (mc m) (fun _ h=>h.2)) ⟨RT,RM⟩ ?_)
 refine m3a ?_
 refine AP (fun K hK=>?_) AZ
 refine qau 30 (.tmp 10) (.tmp 71) rfl b10 kr (tc f g h (.slice a0 n cap)) kr _ (B.row 3 rfl) (qen _ _ _ _ _ _ _ _) (qaq _ _ _ _) (qbm _ _ _ _ _ _) ?_;refine m1o ?_;intro w9 R9 t9;replace B:=B.turn 3 rfl R9 t9;clear R9 t9;replace RT:=B.row 4 rfl;replace RM:=B.row 0 rfl
 refine hK.out _ _ ⟨RT,RM⟩ (fun _=>?_)
 clear hK K;(try simp only[ZZ]);refine AR [3] ?_
 refine AP (fun K hK=>?_) AZ
 refine sy 32 (.tmp 11) (.tmp 72) (mc m) (B.row 2 rfl) ?_;refine m1o ?_;refine m5g ?_;clear B;intro w9 B;replace RT:=B.row 4 rfl;replace RM:=B.row 0 rfl
 refine hK.out _ _ ⟨RT,RM⟩ (fun _=>?_)
 clear hK K;(try simp only[ZZ]);refine m4w ?_;refine m2c ?_;clear RT RM
 go_wp2_with fail
 (refine m06 ?_;first|(refine bodyPost_ret (qej rfl _ _ _ _ _ _ rfl rfl (B.row 3 rfl) (B.row 2 rfl) _ _ underlying30 underlying32 rfl rfl (qaq _ _ _ _) (qak _)) rfl ⟨rfl,B.base⟩)|(replace B:=B.drew;refine bodyPost_ret (qej rfl _ _ _ _ _ _ rfl rfl (B.row 3 rfl) (B.row 2 rfl) _ _ underlying30 underlying32 rfl rfl (qaq _ _ _ _) (qak _)) rfl ⟨rfl,B.base⟩))
def okQ(f:Nat->Int)(ms:List Mp)(p s:Int)(a j:Nat):Bool:=f (6*a+j/8)==s+1 && !qk7 ms p (a:Int) (1024+(j:Int))
def hadN(f:Nat->Int)(s:Int)(a j:Nat):Nat:=((List.range j).filter fun x=>x%8==0&&f (6*a+x/8)==s+1).length
theorem ql1b(f:Nat->Int)(s:Int)(a j:Nat):hadN f s a (j+1)=hadN f s a j+if (j%8==0&&f (6*a+j/8)==s+1)=true then 1 else 0:=by
 unfold hadN;rw[List.range_succ,List.filter_append,List.length_append]
 cases hq:(j%8==0&&f (6*a+j/8)==s+1)<;>simp[hq]
theorem qqnb(f:Nat->Int)(s:Int)(a j:Nat):hadN f s a j<=j:=by
 have:=List.length_filter_le (fun x=>x%8==0&&f (6*a+x/8)==s+1) (List.range j);simpa[hadN] using this
theorem qoeb(f:Nat->Int)(s:Int)(a k:Nat):hadN f s a (8*k)=((List.range k).filter fun i=>f (6*a+i)==s+1).length:=by
 induction k with
 | zero=>rfl
 | succ k ih=>
  have h0:∀r,0<r->r<8->hadN f s a (8*k+r+1)=hadN f s a (8*k+r):=by
   intro r hr h8
   rw[ql1b,if_neg (by simp;omega)];rfl
  (have e:8*(k+1)=8*k+7+1:=by omega);rw[e,h0 7 om om,h0 6 om om,h0 5 om om,h0 4 om om,h0 3 om om,h0 2 om om,h0 1 om om,ql1b,ih,List.range_succ,List.filter_append,List.length_append];(rw[show 8*k%8=0 by omega,show 8*k/8=k by omega])
  cases hq:(f (6*a+k)==s+1)<;>simp[hq]
theorem qmbb(ha:a<3)(hall:∀n∈qbk f s,n/6=a):qbk f s=((List.range 6).filter fun i=>f (6*a+i)==s+1).map (6*a + ·):=by
 (have e18:List.range 18=(List.range 6).map (6*0 + ·)++((List.range 6).map (6*1 + ·)++(List.range 6).map (6*2 + ·)):=by decide)
 have key:∀b,b<3->((List.range 6).map (6*b + ·)).filter (fun n=>f n==s+1)=if b=a then((List.range 6).filter fun i=>f (6*a+i)==s+1).map (6*a + ·) else []:=by
  intro b hb
  split
  ·rename_i e;subst e;rw[List.filter_map];rfl
  ·rename_i hne
   rw[List.filter_eq_nil_iff];intro n hn hq
   obtain⟨i,hi,rfl⟩:=List.mem_map.1 hn
   (have hi6:i<6:=by simpa using hi)
   have:=hall (6*b+i) ((qjt _ _ _).2 ⟨by omega,by simpa using hq⟩)
   omega
 unfold qbk
 rw[e18,List.filter_append,List.filter_append,key 0 om,key 1 om,key 2 om]
 rcases(show a=0\/a=1\/a=2 by omega) with rfl|rfl|rfl<;>simp
theorem qn2b(ha:a<3)(hall:∀n∈qbk f s,n/6=a):hadN f s a 48=(qbk f s).length:=by
 rw[qmbb ha hall,List.length_map];exact qoeb f s a 6
theorem qn6b{α:Type}{p q:α->Bool}{l:List α}(h:∀x∈l,p x=q x):l.find? p=l.find? q:=by
 induction l with
 | nil=>rfl
 | cons a r ih=>
  rw[List.find?_cons,List.find?_cons,h a zm,ih (fun x hx=>h x (by simp[hx]))]
theorem qohb(f:Nat->Int)(ms:List Mp)(p s:Int)(a:Nat)(l:List Nat)(hl:∀k∈l,k<6):
  qcy ms p ((l.filter fun i=>f (6*a+i)==s+1).map (6*a + ·))=((l.flatMap fun k=>(List.range 8).map (8*k + ·)).find? (okQ f ms p s a)).map fun j=>(6*a+j/8,j%8):=by
 induction l with
 | nil=>rfl
 | cons k r ih=>
  have hk:=hl k zm;(have ih':=ih (fun x hx=>hl x (by simp[hx])));rw[List.flatMap_cons,List.find?_append,List.filter_cons]
  have hok:∀i,i<8->okQ f ms p s a (8*k+i)=(f (6*a+k)==s+1 && !qk7 ms p (a:Int) (qe5 (6*a+k) i)):=by
   intro i hi
   unfold okQ qe5
   (rw[show(8*k+i)/8=k by omega,show(6*a+k)%6=k by omega])
   have:(1024:Int)+((8*k+i:Nat):Int)=((1024+8*k+i:Nat):Int):=by omega
   rw[this]
  have hfm:((List.range 8).map (8*k + ·)).find? (okQ f ms p s a)=((List.range 8).find? fun i=>f (6*a+k)==s+1 && !qk7 ms p (a:Int) (qe5 (6*a+k) i)).map (8*k + ·):=by
   rw[List.find?_map]
   congr 1
   exact qn6b (fun i hi=>hok i (List.mem_range.1 hi))
  rw[hfm]
  cases hb:(f (6*a+k)==s+1) with
  | false=>
   simp only[Bool.false_and]
   rw[if_neg zm,ih']
   have:(List.range 8).find? (fun _=>false)=none:=by decide
   rw[this]
   rfl
  | true=>
   simp only[Bool.true_and,if_true]
   rw[List.map_cons]
   unfold qcy
   have hu:qie ms p (6*a+k)=(List.range 8).find? fun i=>!qk7 ms p (a:Int) (qe5 (6*a+k) i):=by
    unfold qie
    (rw[show(6*a+k)/6=a by omega])
   rw[hu]
   cases hf:(List.range 8).find? (fun i=>!qk7 ms p (a:Int) (qe5 (6*a+k) i)) with
   | none=>rw[ih'];rfl
   | some i=>
    have hi:i<8:=List.mem_range.1 (List.mem_of_find?_eq_some hf)
    simp only[Option.map_some,Option.some_or]
    (rw[show(8*k+i)/8=k by omega,show(8*k+i)%8=i by omega])
theorem qlwb(ms:List Mp)(p:Int)(ha:a<3)(hall:∀n∈qbk f s,n/6=a):qcy ms p (qbk f s)=((List.range 48).find? (okQ f ms p s a)).map fun j=>(6*a+j/8,j%8):=by
 rw[qmbb ha hall,qohb f ms p s a (List.range 6) (fun k hk=>by simpa using hk)]
 rfl
theorem qm1b(h:(List.range j).find? q=none)(hq:q j=false):(List.range (j+1)).find? q=none:=by
 rw[List.range_succ,List.find?_append,h];simp[hq]
theorem qo5b(h:(List.range j).find? q=none)(hq:q j=true)(hn:j<n):(List.range n).find? q=some j:=by
 have:List.range n=List.range j++j::(List.range (n-j-1)).map (j+1 + ·):=by
  apply List.ext_getElem?
  intro i
  by_cases h1:i<j
  ·rw[List.getElem?_append_left (by simpa using h1)];rw[List.getElem?_range om,List.getElem?_range h1]
  ·rw[List.getElem?_append_right (by simpa using h1)]
   simp only[List.length_range]
   by_cases h2:i=j
   ·subst h2;simp[hn]
   ·obtain⟨k,rfl⟩:∃k,i=j+1+k:=⟨i-j-1,by omega⟩
    (rw[show j+1+k-j=k+1 by omega,List.getElem?_cons_succ,List.getElem?_map])
    by_cases h3:j+1+k<n
    ·rw[List.getElem?_range om,List.getElem?_range om];rfl
    ·rw[List.getElem?_eq_none (by simp;omega),List.getElem?_eq_none (by simp;omega)];rfl
 rw[this,List.find?_append,h]
 simp[hq]
def qknb:Code->List Code
 | .loop c=>c::qknb c
 | .seq a b=>qknb a++qknb b
 | .block _ c=>qknb c
 | .scope c=>qknb c
 | .cond _ a b=>qknb a++qknb b
 | _=>[]
def qqvb(F:Func):Code:=((F.body.map qknb).getD []).headD .skip
def qrgb(F:Func):Code:=((F.body.map qknb).getD []).tail.headD .skip
def WO1(w:World)(f:Nat->Int)(g:Nat->Bool)(h:Nat->Int)(ms:List Mp)(p s i d:Int)(b5 b10 b11 b14 b15:Nat)(a0:Option Addr)(n cap:Nat)(a:Act)(W:World):Prop:=
 ∃u6 u7 u8 u9 u12 u13 u15 u16 u17 u19 u20 u21 u22 u23 u24 u25 u26 u27 u28 u29 u30 u31 u32 u33 u34 u35 u36 u37 u38 u39 u40 u41 u42 u43 u44 u45 u46 u47 u48 u49 u50 u51 u52 u53 u54 u55 u56 u57 u58 u59 u60 u61 u62 u63 u64 u65 u66 u67 u68 u69 u70 u71 u72 u73 u76 u77 u78 u79 u80 u81 u82 u83 u84 u85 u86 u87 u88 u89 u90 u91 u92 u93 u94 u95 u96 u97 u98 u99 u100 u101 u102 u103 u104 u105 u106 u107 u108 u109 u110 u111 u112 u113 u114 u115 u116 u117 u118 u119 u120 u121 u122 u123 u124 u125 u126 u127 u128 u129 u130 u131 u132 u133 u134 u135 u136 u137 u138 u139 u140 u141 u142 u143 u144 u145 u146 u147 u148 u149 u150 u151 u152 u153 u154 u155 u156 u157 u158 u159 u160 u161 u162 u163 u164 u165 u166 u167 u168 u169 u170 u171 u172 u173 u174 u175 u176 u177 u178 u179 u180 u181 u182 u183 u184 u185 u186 u187 u188 u189 u190 u191 u192 u193 u194 u195 u196 u197 u198 u199 u200 u201 u202 u203 u204 u205:Value,(∃j:Nat,j<=ms.length/\u76=I Z (j:Int)/\u17=I Z (cntM (ms.take j) s:Int)/\Bd w W [(b15,32,mc noM),(b14,32,mc noM),(b11,32,mc noM),(b10,30,tc (fun _=>0) (fun _=>false) (fun _=>0) (.slice none 0 0)),(b5,30,tc f g h (.slice a0 n cap))] [])/\a=⟨#[(.agg (tc f g h (.slice a0 n cap))),I Z p,I Z s,I Z i,I Z d,V (some ⟨b5,0,none⟩),u6,u7,u8,u9,V (some ⟨b10,0,none⟩),V (some ⟨b11,0,none⟩),u12,u13,V (some ⟨b14,0,none⟩),u15,u16,u17,I Z 0,u19,u20,u21,u22,u23,u24,u25,u26,u27,u28,u29,u30,u31,u32,u33,u34,u35,u36,u37,u38,u39,u40,u41,u42,u43,u44,u45,u46,u47,u48,u49,u50,u51,u52,u53,u54,u55,u56,u57,u58,u59,u60,u61,u62,u63,u64,u65,u66,u67,u68,u69,u70,u71,u72,u73,(.slice a0 n cap),I Z (n:Int),u76,u77,u78,u79,u80,u81,u82,u83,u84,u85,u86,u87,u88,u89,u90,u91,u92,u93,u94,u95,u96,u97,u98,u99,u100,u101,u102,u103,u104,u105,u106,u107,u108,u109,u110,u111,u112,u113,u114,u115,u116,u117,u118,u119,u120,u121,u122,u123,u124,u125,u126,u127,u128,u129,u130,u131,u132,u133,u134,u135,u136,u137,u138,u139,u140,u141,u142,u143,u144,u145,u146,u147,u148,u149,u150,u151,u152,u153,u154,u155,u156,u157,u158,u159,u160,u161,u162,u163,u164,u165,u166,u167,u168,u169,u170,u171,u172,u173,u174,u175,u176,u177,u178,u179,u180,u181,u182,u183,u184,u185,u186,u187,u188,u189,u190,u191,u192,u193,u194,u195,u196,u197,u198,u199,u200,u201,u202,u203,u204,u205],[]⟩
def qlsb(n:Nat)(a:Act)(_:World):Nat:=n-(intOf (a.tmps.getD 76 undef)).toNat
def WO2(w:World)(f:Nat->Int)(g:Nat->Bool)(h:Nat->Int)(ms:List Mp)(p s i d:Int)(b5 b10 b11 b14 b15:Nat)(a0:Option Addr)(n cap:Nat)(b21 aN:Nat)(av:Option Addr)(cv:Nat)(a:Act)(W:World):Prop:=
 ∃u6 u7 u8 u9 u12 u13 u15 u16 u17 u18 u19 u20 u23 u24 u25 u26 u27 u28 u29 u30 u31 u32 u33 u34 u35 u36 u37 u38 u39 u40 u41 u42 u43 u44 u45 u46 u47 u48 u49 u50 u51 u52 u53 u54 u55 u56 u57 u58 u59 u60 u61 u62 u63 u64 u65 u66 u67 u68 u69 u70 u71 u72 u73 u74 u75 u76 u77 u78 u79 u80 u81 u82 u83 u84 u85 u86 u87 u88 u89 u90 u91 u92 u93 u94 u95 u96 u97 u98 u99 u100 u101 u102 u103 u104 u105 u106 u107 u108 u109 u110 u111 u112 u113 u114 u115 u116 u117 u118 u119 u120 u121 u122 u123 u124 u125 u126 u127 u128 u129 u130 u131 u132 u133 u134 u135 u136 u137 u138 u139 u140 u141 u142 u143 u144 u145 u146 u147 u148 u149 u150 u151 u152 u153 u154 u155 u156 u157 u158 u159 u160 u161 u162 u163 u164 u165 u166 u167 u168 u169 u170 u171 u172 u173 u174 u175 u176 u177 u178 u179 u180 u181 u182 u183 u184 u185 u186 u187 u188 u189 u190 u191 u192 u193 u194 u195 u196 u197 u198 u199 u200 u201 u202 u203 u204 u205:Value,(∃j:Nat,j<=48/\u23=I Z (1024+(j:Int))/\u18=I Z (hadN f s aN j:Int)/\(List.range j).find? (okQ f ms p s aN)=none/\Bo w W [(b21,30,tc f g h (.slice av n cv)),(b15,32,mc noM),(b14,32,mc noM),(b11,32,mc noM),(b10,30,tc (fun _=>0) (fun _=>false) (fun _=>0) (.slice none 0 0)),(b5,30,tc f g h (.slice a0 n cap))] (.slice av n cv) ms)/\a=⟨#[(.agg (tc f g h (.slice a0 n cap))),I Z p,I Z s,I Z i,I Z d,V (some ⟨b5,0,none⟩),u6,u7,u8,u9,V (some ⟨b10,0,none⟩),V (some ⟨b11,0,none⟩),u12,u13,V (some ⟨b14,0,none⟩),u15,u16,u17,u18,u19,u20,V (some ⟨b21,0,none⟩),I Z (aN:Int),u23,u24,u25,u26,u27,u28,u29,u30,u31,u32,u33,u34,u35,u36,u37,u38,u39,u40,u41,u42,u43,u44,u45,u46,u47,u48,u49,u50,u51,u52,u53,u54,u55,u56,u57,u58,u59,u60,u61,u62,u63,u64,u65,u66,u67,u68,u69,u70,u71,u72,u73,u74,u75,u76,u77,u78,u79,u80,u81,u82,u83,u84,u85,u86,u87,u88,u89,u90,u91,u92,u93,u94,u95,u96,u97,u98,u99,u100,u101,u102,u103,u104,u105,u106,u107,u108,u109,u110,u111,u112,u113,u114,u115,u116,u117,u118,u119,u120,u121,u122,u123,u124,u125,u126,u127,u128,u129,u130,u131,u132,u133,u134,u135,u136,u137,u138,u139,u140,u141,u142,u143,u144,u145,u146,u147,u148,u149,u150,u151,u152,u153,u154,u155,u156,u157,u158,u159,u160,u161,u162,u163,u164,u165,u166,u167,u168,u169,u170,u171,u172,u173,u174,u175,u176,u177,u178,u179,u180,u181,u182,u183,u184,u185,u186,u187,u188,u189,u190,u191,u192,u193,u194,u195,u196,u197,u198,u199,u200,u201,u202,u203,u204,u205],[]⟩
def ql8b(a:Act)(_:World):Nat:=2000-(intOf (a.tmps.getD 23 undef)).toNat
theorem qnob{q:Mp}(s:Int)(hlj:j<ms.length)(hm:ms[j]=q):cntM (ms.take (j+1)) s=cntM (ms.take j) s+if (q.2.1==s)=true then 1 else 0:=by
 unfold cntM
 rw[List.take_succ_eq_append_getElem hlj,hm,List.filter_append,List.length_append]
 cases hq:(q.2.1==s)<;>simp[hq]
theorem qnkb(l:List Mp)(s:Int):cntM l s<=l.length:=List.length_filter_le _ _
theorem qm7b(j:Nat):Value.int .i64 (1024+(j:Int)+1)=I Z (1024+((j+1:Nat):Int)):=by congr 1
theorem qnmb(h:wrap64 (1024+(j:Int)+1)=1024+(j:Int)+1):Value.int .i64 (wrap64 (1024+(j:Int)+1))=I Z (1024+((j+1:Nat):Int)):=by rw[h];exact qm7b j
theorem qlzb(h:j<48):2000-(1024+(j:Int)+1).toNat<2000-(1024+(j:Int)).toNat:=by omega
theorem qkvb(j:Nat)(h:j<48)(w:World):Calls prog 15 #[I Z (1024+(j:Int))] w fun e w'=>e=.returned (.tuple #[I Z ((j/8:Nat):Int),I Z ((j%8:Nat):Int),.bool true])/\w'=w:=by
 have:=qkzb (1024+(j:Int)) w om
 unfold blkQ at this
 rw[show(1024+(j:Int)-1024)/8=((j/8:Nat):Int) by omega,show(1024+(j:Int)-1024)%8=((j%8:Nat):Int) by omega] at this
 exact this
abbrev stO1(w:World)(wr:World)(f:Nat->Int)(g:Nat->Bool)(h:Nat->Int)(ms:List Mp)(p:Int)(s:Int)(i:Int)(d:Int)(b5:Nat)(b10:Nat)(b11:Nat)(b14:Nat)(b15:Nat)(a0:Option Addr)(n:Nat)(cap:Nat)(j:Nat)(c:Nat)(Q0:Exit->Act->World->Prop):Prop:=∀u6 u7 u8 u9 u12 u13 u15 u16 u19 u20 u21 u22 u23 u24 u25 u26 u27 u28 u29 u30 u31 u32 u33 u34 u35 u36 u37 u38 u39 u40 u41 u42 u43 u44 u45 u46 u47 u48 u49 u50 u51 u52 u53 u54 u55 u56 u57 u58 u59 u60 u61 u62 u63 u64 u65 u66 u67 u68 u69 u70 u71 u72 u73 u77 u78 u79 u80 u81 u82 u83 u84 u85 u86 u87 u88 u89 u90 u91 u92 u93 u94 u95 u96 u97 u98 u99 u100 u101 u102 u103 u104 u105 u106 u107 u108 u109 u110 u111 u112 u113 u114 u115 u116 u117 u118 u119 u120 u121 u122 u123 u124 u125 u126 u127 u128 u129 u130 u131 u132 u133 u134 u135 u136 u137 u138 u139 u140 u141 u142 u143 u144 u145 u146 u147 u148 u149 u150 u151 u152 u153 u154 u155 u156 u157 u158 u159 u160 u161 u162 u163 u164 u165 u166 u167 u168 u169 u170 u171 u172 u173 u174 u175 u176 u177 u178 u179 u180 u181 u182 u183 u184 u185 u186 u187 u188 u189 u190 u191 u192 u193 u194 u195 u196 u197 u198 u199 u200 u201 u202 u203 u204 u205:Value,
  Code.wp prog (qqvb f20) (Exit.then (fun a' W=>WO1 w f g h ms p s i d b5 b10 b11 b14 b15 a0 n cap a' W/\qlsb n a' W<qlsb n ⟨#[(.agg (tc f g h (.slice a0 n cap))),I Z p,I Z s,I Z i,I Z d,V (some ⟨b5,0,none⟩),u6,u7,u8,u9,V (some ⟨b10,0,none⟩),V (some ⟨b11,0,none⟩),u12,u13,V (some ⟨b14,0,none⟩),u15,u16,I Z (c:Int),I Z 0,u19,u20,u21,u22,u23,u24,u25,u26,u27,u28,u29,u30,u31,u32,u33,u34,u35,u36,u37,u38,u39,u40,u41,u42,u43,u44,u45,u46,u47,u48,u49,u50,u51,u52,u53,u54,u55,u56,u57,u58,u59,u60,u61,u62,u63,u64,u65,u66,u67,u68,u69,u70,u71,u72,u73,(.slice a0 n cap),I Z (n:Int),I Z (j:Int),u77,u78,u79,u80,u81,u82,u83,u84,u85,u86,u87,u88,u89,u90,u91,u92,u93,u94,u95,u96,u97,u98,u99,u100,u101,u102,u103,u104,u105,u106,u107,u108,u109,u110,u111,u112,u113,u114,u115,u116,u117,u118,u119,u120,u121,u122,u123,u124,u125,u126,u127,u128,u129,u130,u131,u132,u133,u134,u135,u136,u137,u138,u139,u140,u141,u142,u143,u144,u145,u146,u147,u148,u149,u150,u151,u152,u153,u154,u155,u156,u157,u158,u159,u160,u161,u162,u163,u164,u165,u166,u167,u168,u169,u170,u171,u172,u173,u174,u175,u176,u177,u178,u179,u180,u181,u182,u183,u184,u185,u186,u187,u188,u189,u190,u191,u192,u193,u194,u195,u196,u197,u198,u199,u200,u201,u202,u203,u204,u205],[]⟩ wr) Q0) ⟨#[(.agg (tc f g h (.slice a0 n cap))),I Z p,I Z s,I Z i,I Z d,V (some ⟨b5,0,none⟩),u6,u7,u8,u9,V (some ⟨b10,0,none⟩),V (some ⟨b11,0,none⟩),u12,u13,V (some ⟨b14,0,none⟩),u15,u16,I Z (c:Int),I Z 0,u19,u20,u21,u22,u23,u24,u25,u26,u27,u28,u29,u30,u31,u32,u33,u34,u35,u36,u37,u38,u39,u40,u41,u42,u43,u44,u45,u46,u47,u48,u49,u50,u51,u52,u53,u54,u55,u56,u57,u58,u59,u60,u61,u62,u63,u64,u65,u66,u67,u68,u69,u70,u71,u72,u73,(.slice a0 n cap),I Z (n:Int),I Z (j:Int),u77,u78,u79,u80,u81,u82,u83,u84,u85,u86,u87,u88,u89,u90,u91,u92,u93,u94,u95,u96,u97,u98,u99,u100,u101,u102,u103,u104,u105,u106,u107,u108,u109,u110,u111,u112,u113,u114,u115,u116,u117,u118,u119,u120,u121,u122,u123,u124,u125,u126,u127,u128,u129,u130,u131,u132,u133,u134,u135,u136,u137,u138,u139,u140,u141,u142,u143,u144,u145,u146,u147,u148,u149,u150,u151,u152,u153,u154,u155,u156,u157,u158,u159,u160,u161,u162,u163,u164,u165,u166,u167,u168,u169,u170,u171,u172,u173,u174,u175,u176,u177,u178,u179,u180,u181,u182,u183,u184,u185,u186,u187,u188,u189,u190,u191,u192,u193,u194,u195,u196,u197,u198,u199,u200,u201,u202,u203,u204,u205],[]⟩ wr
abbrev stO2(w:World)(wr:World)(f:Nat->Int)(g:Nat->Bool)(h:Nat->Int)(ms:List Mp)(p:Int)(s:Int)(i:Int)(d:Int)(b5:Nat)(b10:Nat)(b11:Nat)(b14:Nat)(b15:Nat)(b21:Nat)(aN:Nat)(a0:Option Addr)(av:Option Addr)(n:Nat)(cap:Nat)(cv:Nat)(j:Nat)(c:Nat)(Q0:Exit->Act->World->Prop):Prop:=∀u6 u7 u8 u9 u12 u13 u15 u16 u17 u19 u20 u24 u25 u26 u27 u28 u29 u30 u31 u32 u33 u34 u35 u36 u37 u38 u39 u40 u41 u42 u43 u44 u45 u46 u47 u48 u49 u50 u51 u52 u53 u54 u55 u56 u57 u58 u59 u60 u61 u62 u63 u64 u65 u66 u67 u68 u69 u70 u71 u72 u73 u74 u75 u76 u77 u78 u79 u80 u81 u82 u83 u84 u85 u86 u87 u88 u89 u90 u91 u92 u93 u94 u95 u96 u97 u98 u99 u100 u101 u102 u103 u104 u105 u106 u107 u108 u109 u110 u111 u112 u113 u114 u115 u116 u117 u118 u119 u120 u121 u122 u123 u124 u125 u126 u127 u128 u129 u130 u131 u132 u133 u134 u135 u136 u137 u138 u139 u140 u141 u142 u143 u144 u145 u146 u147 u148 u149 u150 u151 u152 u153 u154 u155 u156 u157 u158 u159 u160 u161 u162 u163 u164 u165 u166 u167 u168 u169 u170 u171 u172 u173 u174 u175 u176 u177 u178 u179 u180 u181 u182 u183 u184 u185 u186 u187 u188 u189 u190 u191 u192 u193 u194 u195 u196 u197 u198 u199 u200 u201 u202 u203 u204 u205:Value,
  Code.wp prog (qrgb f20) (Exit.then (fun a' W=>WO2 w f g h ms p s i d b5 b10 b11 b14 b15 a0 n cap b21 aN av cv a' W/\ql8b a' W<ql8b ⟨#[(.agg (tc f g h (.slice a0 n cap))),I Z p,I Z s,I Z i,I Z d,V (some ⟨b5,0,none⟩),u6,u7,u8,u9,V (some ⟨b10,0,none⟩),V (some ⟨b11,0,none⟩),u12,u13,V (some ⟨b14,0,none⟩),u15,u16,u17,I Z (c:Int),u19,u20,V (some ⟨b21,0,none⟩),I Z (aN:Int),I Z (1024+(j:Int)),u24,u25,u26,u27,u28,u29,u30,u31,u32,u33,u34,u35,u36,u37,u38,u39,u40,u41,u42,u43,u44,u45,u46,u47,u48,u49,u50,u51,u52,u53,u54,u55,u56,u57,u58,u59,u60,u61,u62,u63,u64,u65,u66,u67,u68,u69,u70,u71,u72,u73,u74,u75,u76,u77,u78,u79,u80,u81,u82,u83,u84,u85,u86,u87,u88,u89,u90,u91,u92,u93,u94,u95,u96,u97,u98,u99,u100,u101,u102,u103,u104,u105,u106,u107,u108,u109,u110,u111,u112,u113,u114,u115,u116,u117,u118,u119,u120,u121,u122,u123,u124,u125,u126,u127,u128,u129,u130,u131,u132,u133,u134,u135,u136,u137,u138,u139,u140,u141,u142,u143,u144,u145,u146,u147,u148,u149,u150,u151,u152,u153,u154,u155,u156,u157,u158,u159,u160,u161,u162,u163,u164,u165,u166,u167,u168,u169,u170,u171,u172,u173,u174,u175,u176,u177,u178,u179,u180,u181,u182,u183,u184,u185,u186,u187,u188,u189,u190,u191,u192,u193,u194,u195,u196,u197,u198,u199,u200,u201,u202,u203,u204,u205],[]⟩ wr) Q0) ⟨#[(.agg (tc f g h (.slice a0 n cap))),I Z p,I Z s,I Z i,I Z d,V (some ⟨b5,0,none⟩),u6,u7,u8,u9,V (some ⟨b10,0,none⟩),V (some ⟨b11,0,none⟩),u12,u13,V (some ⟨b14,0,none⟩),u15,u16,u17,I Z (c:Int),u19,u20,V (some ⟨b21,0,none⟩),I Z (aN:Int),I Z (1024+(j:Int)),u24,u25,u26,u27,u28,u29,u30,u31,u32,u33,u34,u35,u36,u37,u38,u39,u40,u41,u42,u43,u44,u45,u46,u47,u48,u49,u50,u51,u52,u53,u54,u55,u56,u57,u58,u59,u60,u61,u62,u63,u64,u65,u66,u67,u68,u69,u70,u71,u72,u73,u74,u75,u76,u77,u78,u79,u80,u81,u82,u83,u84,u85,u86,u87,u88,u89,u90,u91,u92,u93,u94,u95,u96,u97,u98,u99,u100,u101,u102,u103,u104,u105,u106,u107,u108,u109,u110,u111,u112,u113,u114,u115,u116,u117,u118,u119,u120,u121,u122,u123,u124,u125,u126,u127,u128,u129,u130,u131,u132,u133,u134,u135,u136,u137,u138,u139,u140,u141,u142,u143,u144,u145,u146,u147,u148,u149,u150,u151,u152,u153,u154,u155,u156,u157,u158,u159,u160,u161,u162,u163,u164,u165,u166,u167,u168,u169,u170,u171,u172,u173,u174,u175,u176,u177,u178,u179,u180,u181,u182,u183,u184,u185,u186,u187,u188,u189,u190,u191,u192,u193,u194,u195,u196,u197,u198,u199,u200,u201,u202,u203,u204,u205],[]⟩ wr
theorem qoob(j c:Nat)(q:Mp)(B:Bd w wr [(b15,32,mc noM),(b14,32,mc noM),(b11,32,mc noM),(b10,30,tc (fun _=>0) (fun _=>false) (fun _=>0) (.slice none 0 0)),(b5,30,tc f g h (.slice a0 n cap))] [])(HN:Hid (n=ms.length))(hM:qaz w (.slice a0 n cap) ms)(hlj:j<ms.length)(hm:ms[j]=q)(HC:Hid (c=cntM (ms.take j) s))(hc:c<=1000)(g1:(q.2.1==s)=true)(Q0:Exit->Act->World->Prop):
  stO1 w wr f g h ms p s i d b5 b10 b11 b14 b15 a0 n cap j c Q0:=by
 unfold stO1;intros
 conv=>arg 2;whnf
 have hlt:=hM.lt;refine m0h ?_;intro hjn hjw;have hMW:=hM.keep B.base hlt;have hrg:=hMW.at j hlj hm;(have hlw:wrap64 ((c:Int)+1)=(c:Int)+1:=by unfold wrap64;omega);have HJ:Hid (j+1<=ms.length):=hidB om;have HCT:Hid (cntM (ms.take (j+1)) s=c+1):=hidB (by rw[qnob s hlj hm,g1,HC.out];rfl);clear hc
 go_wp2_with (first|((with_reducible refine qaa (.indexAddr 28 (.tmp 74) (.tmp 76)) rfl ?_);refine qb5 rfl (.tmp 74) (.tmp 76) rfl (.slice a0 n cap) ms hMW rfl j rfl hlj ?_)|((with_reducible refine gL 32 78 ?_);refine m6d ?_)|((with_reducible refine gA 32 ?_);refine ax 20 32 qa4 ?_;intro b20 w9 l9 R9 h9;replace B:=B.alloc l9 R9 h9;clear R9 h9 l9)|((with_reducible refine gS 32 20 79 ?_);refine sx 32 (.tmp 20) _ (mc q) (B.row 0 rfl) ?_;refine m09 ?_;clear B;intro w9 B)|((with_reducible refine gL 3 80 ?_);refine fx (B.row 0 rfl) _ 1 (q.2.1) ?_))
 (refine⟨?_,?measure⟩;unfold WO1;(repeat apply Exists.intro);refine⟨?rel,rfl⟩)
 case rel=>exact⟨j+1,HJ.out,(by first|exact qj2b j|exact qj0b hjw),(by first|(rw[HCT.out];done)|(rw[HCT.out];exact qj2b c)|(rw[HCT.out];exact qj0b hlw)),B.tail⟩
 case measure=>unfold qlsb;(first|rw[hjw]|skip);exact qek (HN.out.symm▸hlj)
theorem qokb(j c:Nat)(q:Mp)(B:Bd w wr [(b15,32,mc noM),(b14,32,mc noM),(b11,32,mc noM),(b10,30,tc (fun _=>0) (fun _=>false) (fun _=>0) (.slice none 0 0)),(b5,30,tc f g h (.slice a0 n cap))] [])(HN:Hid (n=ms.length))(hM:qaz w (.slice a0 n cap) ms)(hlj:j<ms.length)(hm:ms[j]=q)(HC:Hid (c=cntM (ms.take j) s))(hc:c<=1000)(g1:(q.2.1==s)=false)(Q0:Exit->Act->World->Prop):
  stO1 w wr f g h ms p s i d b5 b10 b11 b14 b15 a0 n cap j c Q0:=by
 unfold stO1;intros
 conv=>arg 2;whnf
 have hlt:=hM.lt;refine m0h ?_;intro hjn hjw;have hMW:=hM.keep B.base hlt;have hrg:=hMW.at j hlj hm;(have hlw:wrap64 ((c:Int)+1)=(c:Int)+1:=by unfold wrap64;omega);have HJ:Hid (j+1<=ms.length):=hidB om;have HCT:Hid (cntM (ms.take (j+1)) s=c):=hidB (by rw[qnob s hlj hm,g1,HC.out];rfl);clear hc
 go_wp2_with (first|((with_reducible refine qaa (.indexAddr 28 (.tmp 74) (.tmp 76)) rfl ?_);refine qb5 rfl (.tmp 74) (.tmp 76) rfl (.slice a0 n cap) ms hMW rfl j rfl hlj ?_)|((with_reducible refine gL 32 78 ?_);refine m6d ?_)|((with_reducible refine gA 32 ?_);refine ax 20 32 qa4 ?_;intro b20 w9 l9 R9 h9;replace B:=B.alloc l9 R9 h9;clear R9 h9 l9)|((with_reducible refine gS 32 20 79 ?_);refine sx 32 (.tmp 20) _ (mc q) (B.row 0 rfl) ?_;refine m09 ?_;clear B;intro w9 B)|((with_reducible refine gL 3 80 ?_);refine fx (B.row 0 rfl) _ 1 (q.2.1) ?_))
 (refine⟨?_,?measure⟩;unfold WO1;(repeat apply Exists.intro);refine⟨?rel,rfl⟩)
 case rel=>exact⟨j+1,HJ.out,(by first|exact qj2b j|exact qj0b hjw),(by first|(rw[HCT.out];done)|(rw[HCT.out];exact qj2b c)|(rw[HCT.out];exact qj0b hlw)),B.tail⟩
 case measure=>unfold qlsb;(first|rw[hjw]|skip);exact qek (HN.out.symm▸hlj)
theorem qocb(f:Nat->Int)(g:Nat->Bool)(h:Nat->Int)(sl:Value)(ms:List Mp)(p s i d:Int)(hwH:wfH h)(hP:qjy f h ms p s i)(hf:ms.find? (inS p s i)=none)(hc:cntM ms s=12)(w:World)(hM:qaz w sl ms):
  Calls prog 20 #[.agg (tc f g h sl),I Z p,I Z s,I Z i,I Z d] w fun e w'=>e=.returned (qpm f g h sl noM false 6)/\Below w.heap.size w w':=by
 unfold qpm
 have B:=Bd.start w;have hM0:=hM
 obtain⟨a0,cap,hsl,-⟩:=hM0
 obtain⟨n,hn⟩:∃n,n=ms.length:=⟨_,rfl⟩
 have HN:Hid (n=ms.length):=hn
 rw[←hn] at hsl
 subst hsl
 clear hn;refine m2a ?_;intro hlt CI G hp hs hi CG HG
 rw[hp] at CI
 refine m10 ?_;intro d1 d2 d3 d4 CF
 rw[hf] at CF
 unfold qhw at CF
 have hl9:ms.length<=1000:=Nat.le_trans G.len (by decide);have HL9:Hid (ms.length<=1000):=hl9;clear hf;have HC:Hid (cntM ms s=12):=hc;clear hc
 go_enter func20,ntmps20
 go_wp2_with (first|((with_reducible refine gB 30 0 ?_);refine m0v ?_;refine m4e ?_;clear B;intro b5 w9 B)|((with_reducible refine gA 30 ?_);refine m2o ?_;clear B;intro b10 w9 B)|((with_reducible refine gA 32 ?_);refine m1e ?_;clear B;intro b11 w9 B)|((with_reducible refine qaa (.build 32 #[]) rfl ?_);refine qkmb rfl rfl ?_)|((with_reducible refine gA 32 ?_);refine m15 ?_;clear B;intro b14 w9 B)|((with_reducible refine gS 32 14 35 ?_);refine m2y ?_;refine m09 ?_;clear B;intro w9 B)|((with_reducible refine gL 30 5 ?_);refine m1q ?_)|(go_at_call 17;refine m3k ?_;rintro e w5 ⟨r,hr,rfl,hb5⟩;obtain rfl:r=true:=(hr.2 HG.out);clear hr;replace B:=B.below hb5;clear hb5)|(go_at_call 38;go_fit (CI _);refine m03 ?_)|(go_at_call 11;go_fit (CF _ (hM.keep B.base hlt));refine m0w ?_;clear B;intro w5 B)|((with_reducible refine gA 32 ?_);refine m3q ?_;clear B;intro b15 w9 B)|((with_reducible refine gS 32 15 68 ?_);refine sx 32 (.tmp 15) _ (mc noM) (B.row 0 rfl) ?_;refine m09 ?_;clear B;intro w9 B;refine m4h ?_;intro cM))
 clear cM CI CF
 refine wp_loop (WO1 w f g h ms p s i d b5 b10 b11 b14 b15 a0 n cap) (qlsb n) ?_ ?_
 ·unfold WO1
  (repeat apply Exists.intro)
  refine⟨?_,rfl⟩
  exact⟨0,by omega,rfl,rfl,B⟩
 ·clear B;intro a W hI
  unfold WO1 at hI
  iterate 194 (obtain⟨_,hI⟩:=hI)
  obtain⟨hrel,rfl⟩:=hI
  obtain⟨j,hj,rfl,rfl,B⟩:=hrel
  by_cases hlj:j<ms.length
  ·obtain⟨q,hm⟩:∃q,ms[j]=q:=⟨_,rfl⟩
   have hle:=qnkb (ms.take j) s;(have hle2:(ms.take j).length<=ms.length:=by rw[List.length_take];omega)
   obtain⟨c,hc⟩:∃c,c=cntM (ms.take j) s:=⟨_,rfl⟩
   rw[←hc];(have hc9:c<=1000:=by have:=HL9.out;omega)
   cases g1:(q.2.1==s) with
   | true=>apply qoob j c q B HN hM hlj hm hc hc9 g1 _
   | false=>apply qokb j c q B HN hM hlj hm hc hc9 g1 _
  ·(have e:j=ms.length:=by omega)
   subst e
   refine m6n ?_;intro hjn;clear hj hlj;rw[HC.out];clear G hp hs hi d1 d2 d3 d4
   go_upto_region 15 with fail
   have RT:Row 30 _ b5 (tc f g h (.slice a0 n cap)):=B.row 4 rfl;have RM:Row 32 _ b14 (mc noM):=B.row 1 rfl
   refine RD (fun W=>Row 30 W b5 (tc f g h (.slice a0 n cap))/\Row 32 W b14 (mc noM)) ⟨RT,RM⟩ (fun _=>?_)
   refine tk 0 (.agg (tc f g h (.slice a0 n cap))) rfl (yx 30 (.tmp 5) (tc f g h (.slice a0 n cap)) (fun _ h=>h.1)) ⟨RT,RM⟩ (tk 1 (.agg (mc noM)) rfl (yx 32 (.tmp 14) (mc noM) (fun _ h=>h.2)) ⟨RT,RM⟩ ?_)
   refine m3a ?_
   refine AP (fun K hK=>?_) AZ
   refine qau 30 (.tmp 10) (.tmp 89) rfl b10 kr (tc f g h (.slice a0 n cap)) kr _ (B.row 3 rfl) (qen _ _ _ _ _ _ _ _) (qaq _ _ _ _) (qbm _ _ _ _ _ _) ?_;refine m1o ?_;intro w9 R9 t9;replace B:=B.turn 3 rfl R9 t9;clear R9 t9;replace RT:=B.row 4 rfl;replace RM:=B.row 1 rfl
   refine hK.out _ _ ⟨RT,RM⟩ (fun _=>?_)
   clear hK K;(try simp only[ZZ]);refine AR [3] ?_
   refine AP (fun K hK=>?_) AZ
   refine sy 32 (.tmp 11) (.tmp 90) (mc noM) (B.row 2 rfl) ?_;refine m1o ?_;refine m5g ?_;clear B;intro w9 B;replace RT:=B.row 4 rfl;replace RM:=B.row 1 rfl
   refine hK.out _ _ ⟨RT,RM⟩ (fun _=>?_)
   clear hK K;(try simp only[ZZ]);refine tq 4 (.bool false) rfl ⟨RT,RM⟩ (tq 5 (I Z 6) rfl ⟨RT,RM⟩ ?_);refine m2c ?_;clear RT RM
   go_wp2_with fail
   (refine m06 ?_;first|(refine bodyPost_ret (qej (p:=10) (q:=11) (x:=12) (y:=13) rfl _ _ _ _ _ _ rfl rfl (B.row 3 rfl) (B.row 2 rfl) _ _ underlying30 underlying32 rfl rfl (qaq _ _ _ _) (qak _)) rfl ⟨rfl,B.base⟩)|(replace B:=B.drew;refine bodyPost_ret (qej (p:=10) (q:=11) (x:=12) (y:=13) rfl _ _ _ _ _ _ rfl rfl (B.row 3 rfl) (B.row 2 rfl) _ _ underlying30 underlying32 rfl rfl (qaq _ _ _ _) (qak _)) rfl ⟨rfl,B.base⟩))
theorem qp0b(j c:Nat)(X:Int)(mx:Mp)(B:Bo w wr [(b21,30,tc f g h (.slice av n cv)),(b15,32,mc noM),(b14,32,mc noM),(b11,32,mc noM),(b10,30,tc (fun _=>0) (fun _=>false) (fun _=>0) (.slice none 0 0)),(b5,30,tc f g h (.slice a0 n cap))] (.slice av n cv) ms)(HN:Hid (n=ms.length))(hM:qaz w (.slice a0 n cap) ms)(hj48:j<48)(ha3:aN<3)(hs:0<=s/\s<8)(hc:c<=48)(HX:Hid (f (6*aN+j/8)=X))(cx:(X != s+1)=true)(HH:Hid (hadN f s aN (j+1)=c))(HF:Hid ((List.range (j+1)).find? (okQ f ms p s aN)=none))(Q0:Exit->Act->World->Prop):
  stO2 w wr f g h ms p s i d b5 b10 b11 b14 b15 b21 aN a0 av n cap cv j c Q0:=by
 unfold stO2;intros
 conv=>arg 2;whnf
 refine m0a ?_;intro hlt hp1 ha0 hjw hlw hsw CB H18 HJ I3 I6
 simp only[Nat.zero_add] at I3
 clear hc hs ha3
 go_wp2_with (first|(go_at_call 15;go_fit (CB _);refine m2v ?_)|((with_reducible refine gL 3 117 ?_);refine m25 ?_))
 (refine⟨?_,?measure⟩;unfold WO2;(repeat apply Exists.intro);refine⟨?rel,rfl⟩)
 case rel=>exact⟨j+1,HJ.out,(by first|exact qm7b j|exact qnmb hjw),(by first|(rw[HH.out];done)|(rw[HH.out];exact qj2b c)|(rw[HH.out];exact qj0b hlw)),HF.out,B⟩
 case measure=>unfold ql8b;(first|rw[hjw]|skip);exact qlzb hj48
theorem qq8b(j c:Nat)(X:Int)(mx:Mp)(B:Bo w wr [(b21,30,tc f g h (.slice av n cv)),(b15,32,mc noM),(b14,32,mc noM),(b11,32,mc noM),(b10,30,tc (fun _=>0) (fun _=>false) (fun _=>0) (.slice none 0 0)),(b5,30,tc f g h (.slice a0 n cap))] (.slice av n cv) ms)(HN:Hid (n=ms.length))(hM:qaz w (.slice a0 n cap) ms)(hj48:j<48)(ha3:aN<3)(hs:0<=s/\s<8)(hc:c<=48)(HX:Hid (f (6*aN+j/8)=X))(cx:(X != s+1)=false)(c0:((((j%8:Nat)):Int)==0)=true)(CK:∀w,qaz w (.slice a0 n cap) ms->Calls prog 13 #[.agg (tc f g h (.slice a0 n cap)),I Z p,I Z (aN:Int),I Z (1024+(j:Int))] w fun e w'=>e=.returned (.tuple #[.agg (mc mx),.bool true])/\Below w.heap.size w w')(HH:Hid (hadN f s aN (j+1)=c+1))(HF:Hid ((List.range (j+1)).find? (okQ f ms p s aN)=none))(Q0:Exit->Act->World->Prop):
  stO2 w wr f g h ms p s i d b5 b10 b11 b14 b15 b21 aN a0 av n cap cv j c Q0:=by
 unfold stO2;intros
 conv=>arg 2;whnf
 refine m0a ?_;intro hlt hp1 ha0 hjw hlw hsw CB H18 HJ I3 I6
 simp only[Nat.zero_add] at I3
 clear hc hs ha3
 go_wp2_with (first|(go_at_call 15;go_fit (CB _);refine m2v ?_)|((with_reducible refine gL 3 117 ?_);refine m25 ?_)|((with_reducible refine gL 30 5 ?_);refine m2m ?_)|(go_at_call 13;go_fit (CK _ (hM.keep B.base hlt));refine m0w ?_;clear B;intro w5 B)|((with_reducible refine gA 32 ?_);refine m51 ?_;clear B;intro b27 w9 B)|((with_reducible refine gS 32 27 132 ?_);refine m4x ?_;refine m09 ?_;clear B;intro w9 B))
 (refine⟨?_,?measure⟩;unfold WO2;(repeat apply Exists.intro);refine⟨?rel,rfl⟩)
 case rel=>exact⟨j+1,HJ.out,(by first|exact qm7b j|exact qnmb hjw),(by first|(rw[HH.out];done)|(rw[HH.out];exact qj2b c)|(rw[HH.out];exact qj0b hlw)),HF.out,B.tail⟩
 case measure=>unfold ql8b;(first|rw[hjw]|skip);exact qlzb hj48
theorem qqxb(j c:Nat)(X:Int)(mx:Mp)(B:Bo w wr [(b21,30,tc f g h (.slice av n cv)),(b15,32,mc noM),(b14,32,mc noM),(b11,32,mc noM),(b10,30,tc (fun _=>0) (fun _=>false) (fun _=>0) (.slice none 0 0)),(b5,30,tc f g h (.slice a0 n cap))] (.slice av n cv) ms)(HN:Hid (n=ms.length))(hM:qaz w (.slice a0 n cap) ms)(hj48:j<48)(ha3:aN<3)(hs:0<=s/\s<8)(hc:c<=48)(HX:Hid (f (6*aN+j/8)=X))(cx:(X != s+1)=false)(c0:((((j%8:Nat)):Int)==0)=false)(CK:∀w,qaz w (.slice a0 n cap) ms->Calls prog 13 #[.agg (tc f g h (.slice a0 n cap)),I Z p,I Z (aN:Int),I Z (1024+(j:Int))] w fun e w'=>e=.returned (.tuple #[.agg (mc mx),.bool true])/\Below w.heap.size w w')(HH:Hid (hadN f s aN (j+1)=c))(HF:Hid ((List.range (j+1)).find? (okQ f ms p s aN)=none))(Q0:Exit->Act->World->Prop):
  stO2 w wr f g h ms p s i d b5 b10 b11 b14 b15 b21 aN a0 av n cap cv j c Q0:=by
 unfold stO2;intros
 conv=>arg 2;whnf
 refine m0a ?_;intro hlt hp1 ha0 hjw hlw hsw CB H18 HJ I3 I6
 simp only[Nat.zero_add] at I3
 clear hc hs ha3
 go_wp2_with (first|(go_at_call 15;go_fit (CB _);refine m2v ?_)|((with_reducible refine gL 3 117 ?_);refine m25 ?_)|((with_reducible refine gL 30 5 ?_);refine m2m ?_)|(go_at_call 13;go_fit (CK _ (hM.keep B.base hlt));refine m0w ?_;clear B;intro w5 B)|((with_reducible refine gA 32 ?_);refine m51 ?_;clear B;intro b27 w9 B)|((with_reducible refine gS 32 27 132 ?_);refine m4x ?_;refine m09 ?_;clear B;intro w9 B))
 (refine⟨?_,?measure⟩;unfold WO2;(repeat apply Exists.intro);refine⟨?rel,rfl⟩)
 case rel=>exact⟨j+1,HJ.out,(by first|exact qm7b j|exact qnmb hjw),(by first|(rw[HH.out];done)|(rw[HH.out];exact qj2b c)|(rw[HH.out];exact qj0b hlw)),HF.out,B.tail⟩
 case measure=>unfold ql8b;(first|rw[hjw]|skip);exact qlzb hj48
theorem qrab(j c:Nat)(X:Int)(mx:Mp)(B:Bo w wr [(b21,30,tc f g h (.slice av n cv)),(b15,32,mc noM),(b14,32,mc noM),(b11,32,mc noM),(b10,30,tc (fun _=>0) (fun _=>false) (fun _=>0) (.slice none 0 0)),(b5,30,tc f g h (.slice a0 n cap))] (.slice av n cv) ms)(HN:Hid (n=ms.length))(hM:qaz w (.slice a0 n cap) ms)(hj48:j<48)(ha3:aN<3)(hs:0<=s/\s<8)(hc:c<=48)(HX:Hid (f (6*aN+j/8)=X))(cx:(X != s+1)=false)(c0:((((j%8:Nat)):Int)==0)=true)(CK:∀w,qaz w (.slice a0 n cap) ms->Calls prog 13 #[.agg (tc f g h (.slice a0 n cap)),I Z p,I Z (aN:Int),I Z (1024+(j:Int))] w fun e w'=>e=.returned (.tuple #[.agg (mc mx),.bool false])/\Below w.heap.size w w')(hlm:ms.length<=1000)(R:Ending->World->Prop)(hR:∀v w',qaz w' v (ms++[(p,s,i,(aN:Int),1024+(j:Int))])->w.heap.size<=mb v->Below w.heap.size w w'->R (.returned (.tuple #[.agg (tc f g h v),.agg (mc (p,s,i,(aN:Int),1024+(j:Int))),.bool false,I Z 0])) w')(Q0:Exit->Act->World->Prop)(hret:∀a w',bodyPost prog f20 R .ret a w'->Q0 .ret a w'):
  stO2 w wr f g h ms p s i d b5 b10 b11 b14 b15 b21 aN a0 av n cap cv j c Q0:=by
 unfold stO2;intros
 conv=>arg 2;whnf
 refine m0a ?_;intro hlt hp1 ha0 hjw hlw hsw CB H18 HJ I3 I6
 simp only[Nat.zero_add] at I3
 obtain⟨i0,hi,hz0,hz1,hz2⟩:=info_parts qnm;have HLM:Hid (ms.length<=1000):=hlm;have HL2:Hid ((ms++[(p,s,i,(aN:Int),1024+(j:Int))]).length<=140737488355328):=hidB (by rw[List.length_append];simp;omega);clear hlm;clear hc hs ha3
 go_upto_region 29 with(first|(go_at_call 15;go_fit (CB _);refine m2v ?_)|((with_reducible refine gL 3 117 ?_);refine m25 ?_)|((with_reducible refine gL 30 5 ?_);refine m2m ?_)|(go_at_call 13;go_fit (CK _ (hM.keep B.base hlt));refine m0w ?_;clear B;intro w5 B)|((with_reducible refine gA 32 ?_);refine m51 ?_;clear B;intro b27 w9 B)|((with_reducible refine gS 32 27 132 ?_);refine m4x ?_;refine m09 ?_;clear B;intro w9 B)|((with_reducible refine qaa (.build 32 #[(0,.tmp 136),(1,.tmp 137),(2,.tmp 138),(3,.tmp 139),(4,.tmp 140)]) rfl ?_);refine m5w ?_)|((with_reducible refine gA 32 ?_);refine ax 29 32 qa4 ?_;intro b29 w9 l9 R9 h9;replace B:=B.alloc l9 R9 h9;clear R9 h9 l9)|((with_reducible refine gS 32 29 141 ?_);refine sx 32 (.tmp 29) _ (mc (p,s,i,(aN:Int),1024+(j:Int))) (B.row 0 rfl) ?_;refine m09 ?_;clear B;intro w9 B;refine m30 ?_;intro cM)|((with_reducible refine gL 32 29 ?_);refine lx 32 (.tmp 29) (mc (p,s,i,(aN:Int),1024+(j:Int))) (B.row 0 rfl) ?_)|((with_reducible refine q5i ?_);refine qkl rfl (.tmp 144) rfl (p,s,i,(aN:Int),1024+(j:Int)) rfl ?_)|((with_reducible refine qaa (.call { callee:=.builtin .append,args:=#[.tmp 143,.tmp 145],argTypes:=#[28,28] }) rfl ?_);refine m1a ?_;clear cM B;intro v4 w8 hown4 B;obtain⟨a4,c4,rfl⟩:=qkx hown4;clear hown4)|((with_reducible refine gS 28 147 146 ?_);refine m6c ?_;refine m5g ?_;clear B;intro w9 B))
 clear CB CK I3 I6;refine m6o ?_;intro RT RM
 refine RD (fun W=>Row 30 W b21 (tc f g h (.slice a4 (n+1) c4))/\Row 32 W b29 (mc (p,s,i,(aN:Int),1024+(j:Int)))) ⟨RT,RM⟩ (fun _=>?_)
 refine tk 0 (.agg (tc f g h (.slice a4 (n+1) c4))) rfl (yx 30 (.tmp 21) (tc f g h (.slice a4 (n+1) c4)) (fun _ h=>h.1)) ⟨RT,RM⟩ (tk 1 (.agg (mc (p,s,i,(aN:Int),1024+(j:Int)))) rfl (yx 32 (.tmp 29) (mc (p,s,i,(aN:Int),1024+(j:Int))) (fun _ h=>h.2)) ⟨RT,RM⟩ ?_)
 refine m3a ?_
 refine AP (fun K hK=>?_) AZ
 refine m4c ?_;refine m1o ?_;intro w9 R9 t9;replace B:=B.turn 6 rfl R9 t9;clear R9 t9;replace RT:=B.row 2 rfl;replace RM:=B.row 0 rfl
 refine hK.out _ _ ⟨RT,RM⟩ (fun _=>?_)
 clear hK K;(try simp only[ZZ]);refine AR [3] ?_
 refine AP (fun K hK=>?_) AZ
 refine sy 32 (.tmp 11) (.tmp 149) (mc (p,s,i,(aN:Int),1024+(j:Int))) (B.row 5 rfl) ?_;refine m1o ?_;intro w9 R9 t9;replace B:=B.turn 5 rfl R9 t9;clear R9 t9;replace RT:=B.row 2 rfl;replace RM:=B.row 0 rfl
 refine hK.out _ _ ⟨RT,RM⟩ (fun _=>?_)
 clear hK K;(try simp only[ZZ]);refine m4w ?_;refine m2c ?_;clear RT RM
 go_wp2_with fail
 (refine m06 ?_;first|(refine bodyPost_ret (qej (p:=10) (q:=11) (x:=12) (y:=13) rfl _ _ _ _ _ _ rfl rfl (B.row 6 rfl) (B.row 5 rfl) _ _ underlying30 underlying32 rfl rfl (qaq _ _ _ _) (qak _)) rfl (hR _ _ (qqm B.own HL2.out).1 ((qqm B.own HL2.out).2.2 zm) B.base))|(replace B:=B.drew;refine bodyPost_ret (qej (p:=10) (q:=11) (x:=12) (y:=13) rfl _ _ _ _ _ _ rfl rfl (B.row 6 rfl) (B.row 5 rfl) _ _ underlying30 underlying32 rfl rfl (qaq _ _ _ _) (qak _)) rfl (hR _ _ (qqm B.own HL2.out).1 ((qqm B.own HL2.out).2.2 zm) B.base)))
end Go.Proofs.Ytbboabfmoahipaa
