/-
  The walk of BindFinds.
  On a table and five numbers: the document's ways of finding a mapping, of finding it back, of a block and of a good table agree with the program's.
-/
import Derived.ShutString
import Derived.Test.YtbboabfmoahipaaZbd9
namespace Go.Proofs.Ytbboabfmoahipaa
open Go.Value renaming int → I,pointer → V
open Go.IntKind renaming i64 → Z
open Go.ChangeShapes Go.WideShapes Go.ChangeAt Go.RowKit Go.Maps
set_option linter.unusedSimpArgs false
set_option linter.unusedVariables false
variable {w:World}{H:Type}{sp:Nat->Bool}{held:Bool}
theorem Bd.bare{W:World}{L:List (Nat×TypeId×Array Value)}{Ms:List (Value×List Mp)}(h:Bd w W L Ms):Bd w W L []:=⟨h.nodup,h.rows,by simp,h.base⟩
theorem q20{w':World}(h:Below w.drew.heap.size w.drew w'):Below w.heap.size w w':=⟨h.os,h.tape,h.output,h.size,h.block⟩
theorem bool_same{a b:Bool}{p:Prop}(h1:a=true↔p)(h2:b=true↔p):a=b:=by
 cases a<;>cases b<;>simp_all
theorem yields_eqM{ops:Array Oper}{S:World->Prop}{o:Oper}{a:Act}(x y:Operand)(m:Mp)(ho:o.op=.binOp .eql 32 x y 32)(hw:Region.wanted o (yielded ops a.tmps)=true)(hx:a.eval x=.agg (mc m))(hy:a.eval y=.agg (mc m)):YieldsIf Try.prog ops S o (.bool true) a:=
 qhd 32 x y ho hw (mc m) (mc m) hx hy Try.eqGuardType32 true true (fun w=>by rw[qkb];simp) rfl
set_option maxRecDepth 20000 in
set_option maxHeartbeats 8000000 in
theorem finds_any(f:Nat->Int)(g:Nat->Bool)(h:Nat->Int)(sl:Value)(ms:List Mp)(x1 x2 x3 x4 x5:Int)(hwH:wfH h)(hno:qcs sl)(hln:ms.length<=3518437208883)(w:World)(hM:qaz w sl ms):
  Calls Try.prog 3 #[.agg (tc f g h sl),I Z x1,I Z x2,I Z x3,I Z x4,I Z x5] w fun e w'=>e=.returned (.bool true)/\Below w.heap.size w w':=by
 have B:=Bd.start w;have hM0:=hM
 obtain⟨a0,cap,hsl,-⟩:=hM0
 obtain⟨n,hn⟩:∃n,n=ms.length:=⟨_,rfl⟩
 rw[←hn] at hsl
 subst hsl
 clear hn;have hlt:=hM.lt;(have CC:=fun w hM=>qyjb f g h (.slice a0 n cap) ms hno hln w hM);(have CF:=fun v w hM=>qlo f g h v ms x1 x2 x3 w hM);(have CFr:=fun w hM=>qk4b f g h (.slice a0 n cap) ms x1 x2 x3 w hM);(have CK:=fun v w hM=>qqr f g h v ms x1 x4 x5 w hM);(have CKr:=fun w hM=>qmcb f g h (.slice a0 n cap) ms x1 x4 x5 w hM)
 obtain⟨mx,fx,e1⟩:∃mx fx,qhw (ms.find? (inS x1 x2 x3))=.tuple #[.agg (mc mx),.bool fx]:=by
  cases ms.find? (inS x1 x2 x3) with
  | none=>exact⟨noM,false,rfl⟩
  | some m=>exact⟨m,true,rfl⟩
 obtain⟨mu,fu,e2⟩:∃mx fx,qhw (ms.find? (outS x1 x4 x5))=.tuple #[.agg (mc mx),.bool fx]:=by
  cases ms.find? (outS x1 x4 x5) with
  | none=>exact⟨noM,false,rfl⟩
  | some m=>exact⟨m,true,rfl⟩
 rw[e1] at CF CFr
 rw[e2] at CK CKr
 obtain⟨k1,k2,k3,CBk,CBr⟩:∃(k1 k2:Int) (k3:Bool),(∀w,Calls Try.prog 14 #[I Z x5] w fun e w'=>e=.returned (.tuple #[I Z k1,I Z k2,.bool k3])/\w'=w)/\(∀w,Calls Try.prog 15 #[I Z x5] w fun e w'=>e=.returned (.tuple #[I Z k1,I Z k2,.bool k3])/\w'=w):=by
  by_cases hq:1024<=x5/\x5<1072
  ·refine⟨_,_,true,fun w=>?_,fun w=>qkzb x5 w hq⟩
   have:=qs4 x5 w
   unfold blkS at this
   rw[if_pos hq] at this
   exact this
  ·refine⟨0,0,false,fun w=>?_,fun w=>qnsb x5 w hq⟩
   have:=qs4 x5 w
   unfold blkS at this
   rw[if_neg hq] at this
   exact this
 (have CG:=fun v w hM=>qf8 f g h v ms hwH w hM);(have CGr:=fun w hM=>qyhb f g h (.slice a0 n cap) ms hwH w hM);(have CBs:=fun w=>qyob w);clear e1 e2 hno hln hwH
 go_enter Try.func3,Try.ntmps3
 go_upto_region 7 with(first|((with_reducible refine gB 30 0 ?_);refine m0v ?_;intro b6 w9 l9 R9 h9;replace B:=B.alloc l9 R9 h9;clear R9 h9 l9)|((with_reducible refine gL 30 6 ?_);refine qac 30 (.tmp 6) rfl (by kernel_rfl) b6 rfl (tc f g h (.slice a0 n cap)) (B.row 0 rfl) _ Try.underlying30 rfl (qaq _ _ _ _) ?_)|((with_reducible refine gL 30 6 ?_);refine qac 30 (.tmp 6) rfl (by kernel_rfl) b6 rfl (tc f g h (.slice a0 n cap)) (B.row 1 rfl) _ Try.underlying30 rfl (qaq _ _ _ _) ?_)|((with_reducible refine gL 30 6 ?_);refine qac 30 (.tmp 6) rfl (by kernel_rfl) b6 rfl (tc f g h (.slice a0 n cap)) (B.row 2 rfl) _ Try.underlying30 rfl (qaq _ _ _ _) ?_)|((with_reducible refine gL 30 6 ?_);refine qac 30 (.tmp 6) rfl (by kernel_rfl) b6 rfl (tc f g h (.slice a0 n cap)) (B.row 3 rfl) _ Try.underlying30 rfl (qaq _ _ _ _) ?_)|((with_reducible refine gL 30 6 ?_);refine qac 30 (.tmp 6) rfl (by kernel_rfl) b6 rfl (tc f g h (.slice a0 n cap)) (B.row 4 rfl) _ Try.underlying30 rfl (qaq _ _ _ _) ?_)|(go_at_call 10;go_fit (CC _ (hM.keep B.base hlt));rintro e w5 ⟨v5,rfl,hM5,hN5,hl5,hb5⟩;clear hN5;replace B:=B.addNew hb5 hM5 hl5;clear hb5 hl5 hM5)|(go_at_call 9;go_fit (CF _ _ (B.map 0 rfl));refine m0w ?_;clear B;intro w5 B)|(go_at_call 11;go_fit (CFr _ (hM.keep B.base hlt));refine m0w ?_;clear B;intro w5 B)|(go_at_call 12;go_fit (CK _ _ (B.map 0 rfl));refine m0w ?_;clear B;intro w5 B)|(go_at_call 13;go_fit (CKr _ (hM.keep B.base hlt));refine m0w ?_;clear B;intro w5 B)|((with_reducible refine gA 32 ?_);refine ax 13 32 qa4 ?_;intro b13 w9 l9 R9 h9;replace B:=B.alloc l9 R9 h9;clear R9 h9 l9)|((with_reducible refine gS 32 13 34 ?_);refine sx 32 (.tmp 13) _ (mc mx) (B.row 0 rfl) ?_;refine m09 ?_;clear B;intro w9 B)|((with_reducible refine gA 32 ?_);refine m3q ?_;clear B;intro b15 w9 B)|((with_reducible refine gS 32 15 42 ?_);refine sx 32 (.tmp 15) _ (mc mx) (B.row 0 rfl) ?_;refine m09 ?_;clear B;intro w9 B)|((with_reducible refine gA 32 ?_);refine ax 17 32 qa4 ?_;intro b17 w9 l9 R9 h9;replace B:=B.alloc l9 R9 h9;clear R9 h9 l9)|((with_reducible refine gS 32 17 51 ?_);refine sx 32 (.tmp 17) _ (mc mu) (B.row 0 rfl) ?_;refine m09 ?_;clear B;intro w9 B)|((with_reducible refine gA 32 ?_);refine ax 19 32 qa4 ?_;intro b19 w9 l9 R9 h9;replace B:=B.alloc l9 R9 h9;clear R9 h9 l9)|((with_reducible refine gS 32 19 59 ?_);refine sx 32 (.tmp 19) _ (mc mu) (B.row 0 rfl) ?_;refine m09 ?_;clear B;intro w9 B)|(go_at_call 14;go_fit (CBk _);refine m03 ?_)|(go_at_call 15;go_fit (CBr _);refine m03 ?_))
 clear CF CFr CK CKr CBk CBr;replace B:Bd w _ [(b19,32,mc mu),(b17,32,mc mu),(b15,32,mc mx),(b13,32,mc mx),(b6,30,(tc f g h (.slice a0 n cap)))] []:=B.bare;refine wp_region_noPanic ?_
 refine wp_region_held_drew (S:=fun W=>Bd w W [(b19,32,mc mu),(b17,32,mc mu),(b15,32,mc mx),(b13,32,mc mx),(b6,30,(tc f g h (.slice a0 n cap)))] []) (by kernel_rfl) (by first|exact B|exact B.drew) (fun _=>?_)
 refine tk 0 (.agg (mc mx)) rfl (qav 32 (.tmp 13) rfl (by kernel_rfl) b13 (by kernel_rfl) (mc mx) (fun _ h=>h.row 3 rfl) _ Try.underlying32 rfl (qak _)) (by first|exact B|exact B.drew) (tk 1 (.agg (mc mx)) rfl (qav 32 (.tmp 15) rfl (by kernel_rfl) b15 (by kernel_rfl) (mc mx) (fun _ h=>h.row 2 rfl) _ Try.underlying32 rfl (qak _)) (by first|exact B|exact B.drew) (tk 2 (.bool true) rfl (yields_eqM (.tmp 73) (.tmp 74) mx rfl (by kernel_rfl) (by kernel_rfl) (by kernel_rfl)) (by first|exact B|exact B.drew) ?_))
 simp only[ZZ];refine tq 3 (.bool true) rfl (by first|exact B|exact B.drew) (tq 4 (.bool fx) rfl (by first|exact B|exact B.drew) (tq 5 (.bool fx) rfl (by first|exact B|exact B.drew) ?_));simp only[ZZ];refine tk 6 (.bool true) rfl (qymb (.tmp 77) (.tmp 78) fx fx true rfl (by kernel_rfl) (by kernel_rfl) (by kernel_rfl) (by simp)) (by first|exact B|exact B.drew) (tk 7 (.bool true) rfl (q10 (.tmp 76) (.tmp 79) (.const (.bool false)) _ rfl (by kernel_rfl) (by kernel_rfl) (by kernel_rfl)) (by first|exact B|exact B.drew) (tq 8 (.bool true) rfl (by first|exact B|exact B.drew) ?_));simp only[ZZ]
 refine tk 9 (.agg (mc mu)) rfl (qav 32 (.tmp 17) rfl (by kernel_rfl) b17 (by kernel_rfl) (mc mu) (fun _ h=>h.row 1 rfl) _ Try.underlying32 rfl (qak _)) (by first|exact B|exact B.drew) (tk 10 (.agg (mc mu)) rfl (qav 32 (.tmp 19) rfl (by kernel_rfl) b19 (by kernel_rfl) (mc mu) (fun _ h=>h.row 0 rfl) _ Try.underlying32 rfl (qak _)) (by first|exact B|exact B.drew) (tk 11 (.bool true) rfl (yields_eqM (.tmp 82) (.tmp 83) mu rfl (by kernel_rfl) (by kernel_rfl) (by kernel_rfl)) (by first|exact B|exact B.drew) ?_))
 simp only[ZZ];refine tk 12 (.bool true) rfl (q10 (.tmp 81) (.tmp 84) (.const (.bool false)) _ rfl (by kernel_rfl) (by kernel_rfl) (by kernel_rfl)) (by first|exact B|exact B.drew) (tq 13 (.bool true) rfl (by first|exact B|exact B.drew) (tq 14 (.bool fu) rfl (by first|exact B|exact B.drew) ?_));simp only[ZZ];refine tq 15 (.bool fu) rfl (by first|exact B|exact B.drew) (tk 16 (.bool true) rfl (qymb (.tmp 87) (.tmp 88) fu fu true rfl (by kernel_rfl) (by kernel_rfl) (by kernel_rfl) (by simp)) (by first|exact B|exact B.drew) (tk 17 (.bool true) rfl (q10 (.tmp 86) (.tmp 89) (.const (.bool false)) _ rfl (by kernel_rfl) (by kernel_rfl) (by kernel_rfl)) (by first|exact B|exact B.drew) ?_));simp only[ZZ];refine tq 18 (.bool true) rfl (by first|exact B|exact B.drew) (tq 19 (I Z k1) rfl (by first|exact B|exact B.drew) (tq 20 (I Z k1) rfl (by first|exact B|exact B.drew) ?_));simp only[ZZ];refine tk 21 (.bool true) rfl (qmnb 3 (.tmp 92) (.tmp 93) k1 k1 true rfl (by kernel_rfl) (by kernel_rfl) (by kernel_rfl) (by simp)) (by first|exact B|exact B.drew) (tk 22 (.bool true) rfl (q10 (.tmp 91) (.tmp 94) (.const (.bool false)) _ rfl (by kernel_rfl) (by kernel_rfl) (by kernel_rfl)) (by first|exact B|exact B.drew) (tq 23 (.bool true) rfl (by first|exact B|exact B.drew) ?_));simp only[ZZ];refine tq 24 (I Z k2) rfl (by first|exact B|exact B.drew) (tq 25 (I Z k2) rfl (by first|exact B|exact B.drew) (tk 26 (.bool true) rfl (qmnb 3 (.tmp 97) (.tmp 98) k2 k2 true rfl (by kernel_rfl) (by kernel_rfl) (by kernel_rfl) (by simp)) (by first|exact B|exact B.drew) ?_));simp only[ZZ];refine tk 27 (.bool true) rfl (q10 (.tmp 96) (.tmp 99) (.const (.bool false)) _ rfl (by kernel_rfl) (by kernel_rfl) (by kernel_rfl)) (by first|exact B|exact B.drew) (tq 28 (.bool true) rfl (by first|exact B|exact B.drew) (tq 29 (.bool k3) rfl (by first|exact B|exact B.drew) ?_));simp only[ZZ];refine tq 30 (.bool k3) rfl (by first|exact B|exact B.drew) (tk 31 (.bool true) rfl (qymb (.tmp 102) (.tmp 103) k3 k3 true rfl (by kernel_rfl) (by kernel_rfl) (by kernel_rfl) (by simp)) (by first|exact B|exact B.drew) (tk 32 (.bool true) rfl (q10 (.tmp 101) (.tmp 104) (.const (.bool false)) _ rfl (by kernel_rfl) (by kernel_rfl) (by kernel_rfl)) (by first|exact B|exact B.drew) ?_));simp only[ZZ]
 refine tq 33 (.bool true) rfl (by first|exact B|exact B.drew) (tk 34 (.agg (tc f g h (.slice a0 n cap))) rfl (qav 30 (.tmp 6) rfl (by kernel_rfl) b6 (by kernel_rfl) (tc f g h (.slice a0 n cap)) (fun _ h=>h.row 4 rfl) _ Try.underlying30 rfl (qaq _ _ _ _)) (by first|exact B|exact B.drew) (tk 37 (.agg (tc f g h (.slice a0 n cap))) rfl (qav 30 (.tmp 6) rfl (by kernel_rfl) b6 (by kernel_rfl) (tc f g h (.slice a0 n cap)) (fun _ h=>h.row 4 rfl) _ Try.underlying30 rfl (qaq _ _ _ _)) (by first|exact B|exact B.drew) ?_))
 simp only[ZZ];refine wpAnyH_ready (rs:=[35]) (by kernel_rfl) (by simp) ?_
 refine AC (fun K hK=>?_) AZ
 go_simp
 go_at_call 10;(first|refine(CC _ (hM.keep (B.drew).base hlt)).mono ?_|refine(CC _ (hM.keep (B).base hlt)).mono ?_);rintro e w5 ⟨v5,rfl,hM5,hN5,hl5,hb5⟩;clear hN5;(first|replace hb5:=q20 hb5|skip);replace B:=(B.below hb5);have HM5:Hid (qaz _ v5 ms):=hM5;clear hb5 hl5 hM5
 go_wp2_with fail
 refine hK.out _ _ (by first|exact B|exact B.drew) (fun _=>?_)
 clear hK K;(try simp only[ZZ]);refine wpAnyH_ready (rs:=[36]) (by kernel_rfl) (by simp) ?_
 refine AC (fun K hK=>?_) AZ
 go_simp
 go_at_call 16;(first|refine(CG v5 _ HM5.out).mono ?_|refine(CG v5 _ HM5.out).mono ?_);rintro e w5 ⟨rg,hrg,rfl,hb5⟩;replace B:=B.below hb5;have HRG:Hid (rg=true↔qbq f h ms):=hrg;clear hb5 hrg HM5
 go_wp2_with fail
 refine hK.out _ _ (by first|exact B|exact B.drew) (fun _=>?_)
 clear hK K;(try simp only[ZZ]);refine wpAnyH_ready (rs:=[38]) (by kernel_rfl) (by simp) ?_
 refine AC (fun K hK=>?_) AZ
 go_simp
 go_at_call 17;(first|refine(CGr _ (hM.keep (B.drew).base hlt)).mono ?_|refine(CGr _ (hM.keep (B).base hlt)).mono ?_);rintro e w5 ⟨rh,hrh,rfl,hb5⟩;replace B:=B.below hb5;obtain rfl:rh=rg:=bool_same hrh HRG.out;clear hb5 hrh HRG
 go_wp2_with fail
 refine hK.out _ _ (by first|exact B|exact B.drew) (fun _=>?_)
 clear hK K;(try simp only[ZZ]);refine tk 39 (.bool true) rfl (qymb (.tmp 109) (.tmp 111) rh rh true rfl (by kernel_rfl) (by kernel_rfl) (by kernel_rfl) (by simp)) (by first|exact B|exact B.drew) (tk 40 (.bool true) rfl (q10 (.tmp 106) (.tmp 112) (.const (.bool false)) _ rfl (by kernel_rfl) (by kernel_rfl) (by kernel_rfl)) (by first|exact B|exact B.drew) (tq 41 (.bool true) rfl (by first|exact B|exact B.drew) ?_));simp only[ZZ];refine wpAnyH_ready (rs:=[42]) (by kernel_rfl) (by simp) ?_
 refine AC (fun K hK=>?_) AZ
 go_simp
 go_at_call 18;(first|refine(CBs _).mono ?_|refine(CBs _).mono ?_);refine m0w ?_;clear B;intro w5 B
 go_wp2_with fail
 refine hK.out _ _ (by first|exact B|exact B.drew) (fun _=>?_)
 clear hK K;(try simp only[ZZ]);refine tk 43 (.bool true) rfl (q10 (.tmp 114) (.tmp 115) (.const (.bool false)) _ rfl (by kernel_rfl) (by kernel_rfl) (by kernel_rfl)) (by first|exact B|exact B.drew) (tq 44 (.bool true) rfl (by first|exact B|exact B.drew) ?_);simp only[ZZ]
 refine wpAnyH_done (by kernel_rfl) ?_ _
 refine NoPanic.normal ?_
 go_wp2
 go_ret
 exact⟨rfl,B.base⟩
end Go.Proofs.Ytbboabfmoahipaa
namespace Go.Proofs.Ytbboabfmoahipaa
open Go.ChangeShapes Go.WideShapes Go.ChangeAt Go.RowKit Go.Maps
set_option linter.unusedVariables false
set_option linter.unusedSimpArgs false
variable {w:World}{H:Type}{sp:Nat->Bool}{held:Bool}
set_option maxRecDepth 10000 in
theorem open_mapsL{enc:TypeId×Value->H}{fuel:Nat}{l:List Value}{x:DataW H×List MemPlace}(hf0:DataW.trod enc Try.prog w 0 sp held fuel 28 l=some x)(hw:∀y∈x.1.weights Try.prog 28,y<=reachBytes):∃sl ms,l=[sl]/\qaz w sl ms/\qcs sl/\ms.length<=3518437208883:=by
 refine m4k ?_;intro c5 hby
 rcases Go.Deep.open_slice Try.underlying28 hf0 with⟨rfl,rfl⟩|⟨a,len,cap,m,n,D,Pl,rfl,hb,hl,hm,hmm,rfl,hx⟩
 ·exact⟨_,[],rfl,qaz.nil w,fun n c e=>(by injection e with _ _ e3;exact e3.symm),by simp⟩
 ·(have hlm:len<=m:=by rw[hmm];split<;>omega)
  have hbd:len<=3518437208883:=by
   have h1:=hw _ (by simp only[DataW.weights,Try.underlying28];exact List.mem_cons_self)
   rw[hby] at h1
   simp[reachBytes] at h1
   omega
  have each:∀i,i<len->∃q:Mp,∀k v,(mcl q)[k]?=some v->w.cell? (a.add (5*i+k))=some v:=by
   intro i hi;obtain⟨cs',h1,h2⟩:=hx i (by omega)
   rw[c5] at h1
   obtain⟨_,hlen,hcell⟩:=World.cells?_some h1
   obtain⟨q,rfl⟩:=q30 hlen h2
   refine⟨q,fun k v hv=>?_⟩
   (have hk:k<5:=by have:=(List.getElem?_eq_some_iff.1 hv).1;simpa[mcl] using this)
   have:=hcell k hk
   rw[Go.Deep.add_add,Nat.mul_comm i 5] at this
   first|exact this.trans hv|(rw[this];simpa using hv)
  obtain⟨q,hq⟩:=Go.Deep.choose_lt each
  have hsp:0<len->a=⟨a.block,a.off,none⟩:=by
   intro h0
   have:=hq 0 h0 0 _ rfl
   obtain⟨b,off,spot⟩:=a;(have hspot:spot=none:=by simpa[Addr.add] using World.cell?_spot this)
   subst hspot
   rfl
  refine⟨_,(List.range len).map q,rfl,⟨some a,cap,by simp,fun h0=>?_,fun j hj k v hv=>?_,by simp;omega,cap,by simp,by simpa using hl⟩,fun n c e=>(by injection e with e1;simp at e1),by simpa using hbd⟩
  ·rw[hsp (by simpa using h0)];rfl
  ·refine m3c ?_;intro hj' e1
   rw[e1] at hv
   have:=hq j hj' k v hv
   rw[hsp (by omega),Addr.add_lit] at this
   show w.cell? ⟨a.block,a.off+5*j+k,none⟩=some v
   rw[Nat.add_assoc]
   exact this
set_option maxRecDepth 10000 in
theorem open_tableL{enc:TypeId×Value->H}{r:Reach}{b0:Nat}{v:Value}{d:DataW H}{ps:List MemPlace}(hval:Value.okWide Try.prog w r b0 30 v)(hd:DataW.Trod enc Try.prog w 0 sp held 30 v d ps)(hw:∀y∈d.weights Try.prog 30,y<=reachBytes):
  ∃(f:Nat->Int) (g:Nat->Bool) (h:Nat->Int) (sl:Value) (ms:List Mp),v=.agg (tc f g h sl)/\wfF f/\wfH h/\qcs sl/\qaz w sl ms/\ms.length<=3518437208883:=by
 refine m21 ?_;intro c30 c21 c8 c1
 obtain⟨cs,rfl,hcs⟩:=okWide_struct Try.underlying30 hval
 obtain⟨fuel,hf⟩:=hd
 obtain⟨ys,m,_,hx,_,hl,hf⟩:=DataW.trod_struct Try.underlying30 hf
 rw[c30] at hcs
 match ys,hl with
 | [y0,y1,y2],_=>
 refine m0g ?_;intro hy0 hy1 hy2 hlen k e0 wk h e1 wh
 have hw2:∀y∈y2.1.weights Try.prog 28,y<=reachBytes:=by
  intro y hy
  apply hw
  injection hx with hx1 hx2
  rw[hx1]
  simp only[DataW.weights,Try.underlying30,List.map_cons,List.map_nil,DataW.weightsEach]
  simp[DataW.weightsEach,hy]
 obtain⟨sl,ms,e2,hM,hno,hln⟩:=open_mapsL hy2 hw2
 refine⟨k.f,k.g,h,sl,ms,?_,wk,wh,hno,hM,hln⟩
 have e3:cs.toList=(cs.toList.drop 0).take 21++((cs.toList.drop 21).take 8++(cs.toList.drop 29).take 1):=by
  rw[List.drop_zero]
  conv=>lhs;rw[←List.take_append_drop 21 cs.toList]
  congr 1
  conv=>lhs;rw[←List.take_append_drop 8 (cs.toList.drop 21)]
  congr 1
  rw[List.drop_drop]
  rw[List.take_of_length_le (by simp[hlen])]
 rw[e0,e1,e2] at e3
 (have e4:cs=(cs.toList).toArray:=by simp);rw[e4,e3]
 congr 1
 kernel_rfl
end Go.Proofs.Ytbboabfmoahipaa
namespace Go.Proofs.Ytbboabfmoahipaa.bindFinds
open Go.ChangeShapes Go.WideShapes Go.ChangeAt Go.RowKit
set_option linter.unusedVariables false
set_option linter.unusedSimpArgs false
variable {w:World}{H:Type}{sp:Nat->Bool}{held:Bool}
theorem own:ownKnob Try.prog.godebug=none:=by kernel_rfl
set_option maxRecDepth 100000 in
theorem lifted(os:Os)(started:os.Started)(H:Type)(enc:TypeId×Value->H):
  ReturnsInHanded {} Try.checked os 3 .any (Rows.bindFindsSpec.pre6 enc Try.prog Try.f3 Rows.bindFindsRow.domain false) (Rows.bindFindsSpec.post enc Try.prog Try.f3 false true false false):=by
 refine returnsInHanded_of_change_sized (C:=Try.checked) own started (by kernel_rfl) Try.func3
  (ChangeSpec.witness6 (enc:=enc) (C:=Try.checked) false ⟨#[],#[.agg #[.int .i64 0,.int .i64 0,.int .i64 0,.int .i64 0,.int .i64 0,.int .i64 0,.int .i64 0,.int .i64 0,.int .i64 0,.int .i64 0,.int .i64 0,.int .i64 0,.int .i64 0,.int .i64 0,.int .i64 0,.int .i64 0,.int .i64 0,.int .i64 0,.bool false,.bool false,.bool false,.int .i64 0,.int .i64 0,.int .i64 0,.int .i64 0,.int .i64 0,.int .i64 0,.int .i64 0,.int .i64 0,.slice none 0 0],.int .i64 0,.int .i64 0,.int .i64 0,.int .i64 0,.int .i64 0],[]⟩ 8 (by kernel_rfl) (by kernel_rfl) (by kernel_rfl) (by kernel_rfl)) ?_
 intro W base args ds gs before hval0 hW hcnd hsz0 _
 have hval:∀(j:Nat) t v,Try.f3.params[j]?=some t->args[j]?=some v->Value.okWide Try.prog W .any base t v:=hval0;have hW':=hW
 obtain⟨p,q,hA0,hV,rfl,hfz,hnd⟩:=hW
 have hA:DataW.TrodAll enc Try.prog W 0 (fun _=>true) true Try.f3.params.toList args.toList ds p:=hA0;have hsz:(DataW.weightsEach Try.prog (Try.f3.params.toList++Rows.bindFindsSpec.plain.varTypes Try.prog) (ds++gs)).all (·<=reachBytes)=true:=hsz0
 rw[Try.params3] at hA hval hsz
 obtain⟨v0,vs0,d0,ds0,p0,q0,hargs,rfl,rfl,h0,r0⟩:=trodAll_cons hA
 obtain⟨v1,vs1,d1,ds1,p1,q1,rfl,rfl,rfl,h1,r1⟩:=trodAll_cons r0
 obtain⟨v2,vs2,d2,ds2,p2,q2,rfl,rfl,rfl,h2,r2⟩:=trodAll_cons r1
 obtain⟨v3,vs3,d3,ds3,p3,q3,rfl,rfl,rfl,h3,r3⟩:=trodAll_cons r2
 obtain⟨v4,vs4,d4,ds4,p4,q4,rfl,rfl,rfl,h4,r4⟩:=trodAll_cons r3
 obtain⟨v5,vs5,d5,ds5,p5,q5,rfl,rfl,rfl,h5,r5⟩:=trodAll_cons r4
 obtain⟨rfl,rfl,rfl⟩:=trodAll_nil r5
 obtain rfl:args=#[v0,v1,v2,v3,v4,v5]:=by cases args;simp_all
 obtain⟨rfl,rfl⟩:=trodVars_none hV
 (have hw0:∀y∈d0.weights Try.prog 30,y<=reachBytes:=fun y hy=>of_decide_eq_true (List.all_eq_true.1 hsz _ (DataW.weights_mem_each (j:=0) rfl rfl y hy)))
 obtain⟨f,g,h,sl,ms,rfl,wf0,wh0,hno,hM,hln⟩:=open_tableL (hval 0 30 v0 rfl rfl) h0 hw0
 obtain⟨a1,rfl,rfl,rfl,w1⟩:=open_int Try.underlying3 (hval 1 3 v1 rfl rfl) h1
 obtain⟨a2,rfl,rfl,rfl,w2⟩:=open_int Try.underlying3 (hval 2 3 v2 rfl rfl) h2
 obtain⟨a3,rfl,rfl,rfl,w3⟩:=open_int Try.underlying3 (hval 3 3 v3 rfl rfl) h3
 obtain⟨a4,rfl,rfl,rfl,w4⟩:=open_int Try.underlying3 (hval 4 3 v4 rfl rfl) h4
 obtain⟨a5,rfl,rfl,rfl,w5⟩:=open_int Try.underlying3 (hval 5 3 v5 rfl rfl) h5
 clear hA0 hval0
 simp only[List.append_nil,List.nil_append] at hW'
 (have hlt:∀x∈p0,x.block<W.heap.size:=fun x hx=>by simpa using hW'.lt x (by simp[hx]))
 refine(finds_any f g h sl ms a1 a2 a3 a4 a5 wh0 hno hln W hM).mono fun e W' ⟨he,bel⟩=>?_
 subst he
 have h0':=Below.trod (by kernel_rfl) (by kernel_rfl) (of_decide_eq_true (by kernel_rfl)) h0 bel hlt;have hall:=trodAll_cons_mk h0' (trodAll_cons_mk (shut_int Try.underlying3 w1) (trodAll_cons_mk (shut_int Try.underlying3 w2) (trodAll_cons_mk (shut_int Try.underlying3 w3) (trodAll_cons_mk (shut_int Try.underlying3 w4) (trodAll_cons_mk (shut_int Try.underlying3 w5) trodAll_mk0)))))
 simp only[List.append_nil,List.nil_append] at hall
 exact⟨_,rfl,_,_,_,[],p0,[],hW',trodAll_mk1 (shut_bool Try.underlying4 _),hall,rfl,bel.frame _,fun h=>by cases h⟩
theorem over:Rows.bindFindsRow.holds Try.pinned (OpenSpec.ofChange Rows.bindFindsSpec):=
 OpenClaim.holds_of_wide 3 Try.f3 rfl rfl rfl rfl rfl rfl rfl ⟨rfl,rfl,rfl,rfl,rfl⟩ rfl rfl rfl rfl rfl (by kernel_rfl) Try.func3 (by kernel_rfl)
  (of_decide_eq_true (by kernel_rfl)) (by unfold Func.isWrapper;first|(rw[if_pos (by decide +kernel)];kernel_rfl)|(rw[if_neg (by decide +kernel)];exact⟨rfl,rfl⟩))
  (fun os started H enc _=>lifted os started H enc)
end Go.Proofs.Ytbboabfmoahipaa.bindFinds
namespace Go.Proofs.Ytbboabfmoahipaa
variable {w:World}{H:Type}{sp:Nat->Bool}{held:Bool}
theorem bindFinds_holds:Rows.BindFindsSaid:=bindFinds.over
#print axioms bindFinds_holds
end Go.Proofs.Ytbboabfmoahipaa
