/-
  Of what a law stands on.
-/
import Derived.Deep.DeepCutAuto
import Derived.Deep.DeepFit
import Derived.Shelf.SlSortCmp.NoneTotal
import Derived.Shelf.SlicesG.Cmp
import Derived.Test.YtnicenfgemkdnaaGreatDoorZxw1
set_option linter.unusedSimpArgs false
set_option linter.unusedVariables false
namespace Go.Proofs.YtnicenfgemkdnaaGreatDoor
open _root_.Go.Proofs.Tryz
set_option maxHeartbeats 16000000
set_option maxRecDepth 100000
open Go.ChangeShapes Go.WideShapes Go.ChangeAt Go.RowKit Go.Maps
theorem qia{w:World}{b:Nat}{t:TypeId}{cs:Array Value}(h:w.heap[b]?=some (.cells cs t (0,0)))(i:Nat):w.cell? ⟨b,i,none⟩=cs[i]?:=by simp[World.cell?,h]
theorem qnv{w:World}{b:Nat}{t:TypeId}{cs:Array Value}(h:w.heap[b]?=some (.cells cs t (0,0)))(i:Nat):w.frozen? ⟨b,i,none⟩=false:=by simp[World.frozen?,h]
theorem qf7{w w2:World}{r:Option Nat}(h:w.drew.grownBy w2 r):w.grownBy w2 r:=⟨h.os,h.tape,h.output,h.size,h.block⟩
theorem q8i{w:World}{v:Value}{l:List Int}(hown:Own w v l)(c:Nat)(i:Int)(hc:w.cell? ⟨c,0,none⟩=some (.int .i64 i))(hl:l.length<=1000000000)(ty:TypeId):
  ∃v' w',(Builtin.append_ #[84,84] ty #[v,.slice (some ⟨c,0,none⟩) 1 1]).run prog w=.ok v' w'/\Own w' v' (l++[i])/\w.grownBy w' v.ownBlock/\(v'.ownBlock=v.ownBlock\/v'.ownBlock=some w.heap.size)/\∃a k,v'=.slice a (l.length+1) k:=by
 obtain⟨i0,hi0,hz0,hz1,hz2⟩:=info_parts q1h
 obtain⟨v',w',h1,h2,h3,h4,h5⟩:=run_append_own_at (P:=prog) w 0 84 ty 3 i0 (.int .i64 0) 1 8 underlying84 hi0 hz0 hz1 hz2 rfl (by decide) v l.length (l.map (Value.int .i64)) hown ⟨c,0,none⟩ 1 1 [.int .i64 i] rfl (fun j u hu=>by
  match j,hu with
  | 0,hu=>
   have e:Value.int .i64 i=u:=by simpa using hu
   rw[←e];rw[Addr.add_lit];exact hc) (by simp[Value.oneCell']) (by unfold maxLen;omega) om (Nat.zero_le _)
 refine⟨v',w',h1,by show w'.ownsRow 0 3 1 v' (l++[i]).length ((l++[i]).map (Value.int .i64));rw[List.length_append,List.map_append];exact h2,h3,h5,?_⟩
 rcases h2.2 with⟨_,e⟩|⟨g,cap,cur,e,_⟩
 ·omega
 ·exact⟨_,_,e⟩
theorem qwp{o:Oper}{a:Act}{w:World}{K:Act->World->Prop}{Q:Exit->Act->World->Prop}(s x:Operand)(ho:o.op=.call { callee:=.builtin .append,args:=#[s,x],argTypes:=#[84,84] }){v:Value}{l:List Int}(hs:a.eval s=v)(hown:Own w v l)(c:Nat)(i:Int)(hx:a.eval x=.slice (some ⟨c,0,none⟩) 1 1)(hc:w.cell? ⟨c,0,none⟩=some (.int .i64 i))(hl:l.length<=1000000000)(hr:∀a' k' w',Own w' (.slice a' (l.length+1) k') (l++[i])->w.grownBy w' v.ownBlock->((Value.slice a' (l.length+1) k').ownBlock=v.ownBlock\/(Value.slice a' (l.length+1) k').ownBlock=some w.heap.size)->K (a.put o.dst (.slice a' (l.length+1) k')) w'):o.wp prog a w K Q:=by
 obtain⟨v',w',h1,h2,h3,h4,a',k',rfl⟩:=q8i hown c i hc hl o.type
 unfold Oper.wp execOp
 simp only[ho,resolve,invoke,builtin,Sem.run_bind,Sem.run_pure,Result.andThen_ok,List.map_toArray,List.map_cons,List.map_nil,hs,hx,h1]
 exact hr a' k' w' h2 h3 h4
theorem qz6{ops:Array Oper}{rest:List Oper}{o:Oper}{a:Act}{w:World}{Q:Exit->Act->World->Prop}(hgd:o.guard=none)(s x:Operand)(ho:o.op=.call { callee:=.builtin .append,args:=#[s,x],argTypes:=#[84,84] }){v:Value}{l:List Int}(hs:a.eval s=v)(hown:Own w v l)(c:Nat)(i:Int)(hx:a.eval x=.slice (some ⟨c,0,none⟩) 1 1)(hc:w.cell? ⟨c,0,none⟩=some (.int .i64 i))(hl:l.length<=1000000000)(hr:∀a' k' w',Own w' (.slice a' (l.length+1) k') (l++[i])->w.grownBy w' v.ownBlock->((Value.slice a' (l.length+1) k').ownBlock=v.ownBlock\/(Value.slice a' (l.length+1) k').ownBlock=some w.heap.size)->wpList prog ops Q rest (a.put o.dst (.slice a' (l.length+1) k')) w'):wpList prog ops Q (o::rest) a w:=
 wpList_plain hgd fun K hK=>qwp s x ho hs hown c i hx hc hl (fun a' k' w' h1 h2 h3=>hK _ _ (hr a' k' w' h1 h2 h3))
theorem qin{ops:Array Oper}{S:World->Prop}{o:Oper}{a:Act}(t:TypeId)(x y:Operand)(ho:o.op=.indexAddr t x y)(hw:Region.wanted o (yielded ops a.tmps)=true)(p i q:Value)(hx:a.eval x=p)(hy:a.eval y=i)(hrun:∀w:World,(Instr.indexAt t p i).run prog w=.ok q w):YieldsIf prog ops S o q a:=
 .inl ⟨hw,fun w _=>by unfold execOp;simp only[ho,hx,hy,Sem.run_bind,hrun w,Result.andThen_ok,Sem.run_pure]⟩
theorem sZxw21{p:Prop}(h:p:=by
 refine hK.out _ _ trivial (fun _=>?_)
 clear hK K
 try simp only[ZZ]
 refine AR [13] ?_
 refine AC (fun K hK=>?_) ?_
 ·rw[if_pos kr]
  refine qwp (v:=vs (64*l+a)) (.tmp 27) (.tmp 29) rfl rfl (h.own _ hk) _ i rfl h29 hlen ?_;intro a' k' w2 ho2 hg2 hl2;clear h29;replace hg2:=qf7 hg2
  refine hK.out _ _ trivial (fun _=>?_)
  clear hK K
  try simp only[ZZ]
  refine tk 17 (.pointer (some ⟨b,o+2+64*l+a,none⟩)) rfl (qin 86 (.tmp 33) (.tmp 19) rfl kr _ _ _ kr kr hI64) trivial ?_
  simp only[ZZ]
  refine AR [18] ?_
  refine AC (fun K hK=>?_) ?_
  ·rw[if_pos kr]
   have hr2:=ql7 h.row hg2 (h.notb _ hk);have hc:=(qia hr2 (o+2+(64*l+a))).trans (h.cl _ hk);have hz:=qnv hr2 (o+2+(64*l+a));rw[←HO.out] at hc hz
   (unfold Oper.wp execOp;go_simp);clear hc hz
   refine hK.out _ _ trivial (fun _=>?_)
   clear hK K
   try simp only[ZZ]
   refine AN ?_
   go_wp2
   go_end0
   have hq:=h.turnL hk hg2 ho2 (fun e=>absurd e zm) (.inr (hl2.imp id (fun e=>⟨_,e,Nat.le_refl _⟩))) HO.out
   exact⟨rfl,_,_,hq.1,hq.2.1,(hGr.trans hq.2.2.1 (fun x hx=>.inl hx)),fun c hc=>(hq.2.2.2 c hc).imp id (fun hh=>Nat.le_trans hGr.size hh)⟩
  exact AZ
 exact AZ):p:=h
theorem ql3{w:World}{b o:Nat}{t:TypeId}{cs:Array Value}{now:Nat}{bm:Nat}{D:DataW Unit}{vs:Nat->Value}{L:Nat->List Int}(h:WM w b t cs o (now:Int) (some bm) D vs L)(i:Int)(d:Nat)(hi:(Lit.int .i64 i).wf=true)(hd:atW' D i (d:Int))(hn:now<=1099511627776)(hdd:d<=1099511627776)(hlen:(L (pk now d)).length<=1000000000):
  Calls prog 184 #[.pointer (some ⟨b,o,none⟩),.int .i64 i] w fun e w'=>e=.returned (.tuple #[])/\∃cs' vs',WM w' b t cs' o (now:Int) (some bm) D vs' (setL L (pk now d) (L (pk now d)++[i]))/\qb7 o cs cs'/\Gr (Fp b (some bm) vs) w w'/\∀c,Fp b (some bm) vs' c->Fp b (some bm) vs c\/w.heap.size<=c:=by
 have hkey:=keyOf_int_mk (P:=prog) (q:=.i64) (a:=i) underlying3 hi
 have c0:w.cell? ⟨b,o,none⟩=some (.int .i64 (now:Int)):=(h.cell o).trans h.c0
 have c1:w.cell? ⟨b,o+1,none⟩=some (.map (some bm)):=(h.cell _).trans h.c1
 have hl7:=qpa d now hdd hn
 have ha64:=qgt d (lv d now)
 have hpk:pk now d=64*lv d now+dg d (lv d now):=rfl
 have CP:=fun w h=>qoh b o now d hn hdd w h
 generalize lv d now=l at *
 generalize dg d l=a at *
 rw[hpk] at hlen ⊢
 have hk:64*l+a<448:=by omega
 have hI7:=fun w=>idx7 b (o+2) l om w
 have hI64:=fun w=>qy0 b (o+2+64*l) a om w
 have HO:Hid (o+2+64*l+a=o+2+(64*l+a)):=(by omega:o+2+64*l+a=o+2+(64*l+a))
 obtain⟨n,hn',hm⟩:=h.theMap
 have hGr:Gr (Fp b (some bm) vs) w (w.alloc (.cells #[.int .i64 i] 3)):=Gr.of_below ((Below.refl _ _).alloc (Nat.le_refl _) _)
 clear hpk
 go_enter func184,ntmps184
 go_wp2_with (first|(at_lookup;refine wpList_lookup_own_int _ rfl _ _ 85 rfl 3 3 .i64 lawI underlying85 underlying3 (qjv _) bm n D rfl hm _ _ rfl hkey ?_;intro c hat hwc;obtain rfl:=qm8 hd hat;clear hat hwc)|(go_at_call 172;refine(CP _ c0).mono ?_;rintro e w' ⟨rfl,hw⟩;rw[hw];clear hw w'))
 clear c0 c1
 refine RD (fun _=>True) trivial (fun _=>?_)
 refine tq 0 (.pointer (some ⟨b,o,none⟩)) rfl trivial (tq 1 (.int .i64 (l:Int)) rfl trivial (tq 2 (.int .i64 (a:Int)) rfl trivial ?_))
 simp only[ZZ]
 refine tq 3 (.pointer (some ⟨b,o,none⟩)) rfl trivial (tq 4 (.int .i64 (l:Int)) rfl trivial (tq 5 (.int .i64 (a:Int)) rfl trivial ?_))
 simp only[ZZ]
 refine tq 6 (.pointer (some ⟨b,o,none⟩)) rfl trivial (tq 7 (.pointer (some ⟨b,o+2,none⟩)) rfl trivial (tk 8 (.pointer (some ⟨b,o+2+64*l,none⟩)) rfl (qin 87 (.tmp 24) (.tmp 21) rfl kr _ _ _ kr kr hI7) trivial ?_))
 simp only[ZZ]
 refine tk 9 (.pointer (some ⟨b,o+2+64*l+a,none⟩)) rfl (qin 86 (.tmp 25) (.tmp 22) rfl kr _ _ _ kr kr hI64) trivial (tq 11 (.int .i64 i) rfl trivial (tq 14 (.pointer (some ⟨b,o,none⟩)) rfl trivial ?_))
 simp only[ZZ]
 refine tq 15 (.pointer (some ⟨b,o+2,none⟩)) rfl trivial (tk 16 (.pointer (some ⟨b,o+2+64*l,none⟩)) rfl (qin 87 (.tmp 32) (.tmp 18) rfl kr _ _ _ kr kr hI7) trivial ?_)
 simp only[ZZ]
 refine AR [10,12] ?_
 refine AC (fun K hK=>?_) ?_
 ·rw[if_pos kr]
  have hc:=(h.cell (o+2+(64*l+a))).trans (h.cl _ hk);rw[←HO.out] at hc
  (unfold Oper.wp execOp;go_simp);clear hc
  refine hK.out _ _ trivial (fun _=>?_)
  clear hK K
  try simp only[ZZ]
  refine AR [12] ?_
  refine AC (fun K hK=>?_) ?_
  ·rw[if_pos kr]
   (unfold Oper.wp execOp;go_simp);replace h:=h.alloc (.cells #[.int .i64 i] 3);have h29:World.cell? _ ⟨_,0,none⟩=some (.int .i64 i):=World.cell?_alloc_mark w #[.int .i64 i] 3 (0,0) 0
   exact sZxw21
  exact AZ
 refine AC (fun K hK=>?_) ?_
 ·rw[if_pos kr]
  (unfold Oper.wp execOp;go_simp);replace h:=h.alloc (.cells #[.int .i64 i] 3);have h29:World.cell? _ ⟨_,0,none⟩=some (.int .i64 i):=World.cell?_alloc_mark w #[.int .i64 i] 3 (0,0) 0
  refine hK.out _ _ trivial (fun _=>?_)
  clear hK K
  try simp only[ZZ]
  refine AR [10] ?_
  refine AC (fun K hK=>?_) ?_
  ·rw[if_pos kr]
   have hc:=(h.cell (o+2+(64*l+a))).trans (h.cl _ hk);rw[←HO.out] at hc
   (unfold Oper.wp execOp;go_simp);clear hc
   exact sZxw21
  exact AZ
 exact AZ
theorem Gr.undrew{F:Nat->Prop}{w w':World}(h:Gr F w.drew w'):Gr F w w':=⟨h.os,h.tape,h.output,h.size,h.block⟩
def ql5(v:Value)(F:Nat->Prop):Prop:=∀c,v.ownBlock=some c->¬F c
theorem Own.keepGr{w w':World}{v:Value}{l:List Int}{F:Nat->Prop}(h:Own w v l)(hg:Gr F w w')(hn:ql5 v F):Own w' v l:=by
 obtain⟨h1,h2⟩:=h
 refine⟨h1,?_⟩
 rcases h2 with h2|⟨g,cap,cur,e,h3,h4,h5⟩
 ·exact .inl h2
 ·exact .inr ⟨g,cap,cur,e,h3,(hg.block g (Array.getElem?_eq_some_iff.1 h4).1 (hn g (by rw[e];rfl))).trans h4,h5⟩
theorem Own.lt'{w:World}{v:Value}{l:List Int}(h:Own w v l){c:Nat}(hc:v.ownBlock=some c):c<w.heap.size:=(World.ownsRow.lt h c hc).2
theorem Own.alloc'{w:World}{v:Value}{l:List Int}(h:Own w v l)(o:Obj):Own (w.alloc o) v l:=World.ownsRow.alloc h o
theorem q81(now:Int)(z:Int->Int)(l:List Int)(s:(Nat->List Int)×List Int)(m:Nat):((l.foldl (sprS now z) s).1 m).length<=(s.1 m).length+l.length/\(l.foldl (sprS now z) s).2.length<=s.2.length+l.length:=by
 rw[qsq]
 have h1:=List.length_filter_le (fun i=>decide (¬z i<=now)&&decide (pk now.toNat (z i).toNat=m)) l
 have h2:=List.length_filter_le (fun i=>decide (z i<=now)) l
 simp only[List.length_append]
 omega
theorem qta{α β:Type}(f:β->α->β)(s:β)(l:List α)(j:Nat)(hj:j<l.length):(l.take (j+1)).foldl f s=f ((l.take j).foldl f s) l[j]:=by
 rw[List.take_succ_eq_append_getElem hj,List.foldl_append];rfl
def Says(D:DataW Unit)(z:Int->Int):Prop:=∀i,(Lit.int .i64 i).wf=true->atW' D i (z i)/\0<=z i/\z i<=1099511627776
structure Mid(w:World)(b:Nat)(t:TypeId)(cs:Array Value)(o:Nat)(now:Int)(mb:Option Nat)(D:DataW Unit)(vs:Nat->Value)(L:Nat->List Int)(ov:Value)(off:List Int):Prop where
 wm:WM w b t cs o now mb D vs L
 own:Own w ov off
 out:ql5 ov (Fp b mb vs)
theorem Mid.fp_lt{w:World}{b o:Nat}{t:TypeId}{cs:Array Value}{now:Int}{mb:Option Nat}{D:DataW Unit}{vs:Nat->Value}{L:Nat->List Int}(h:WM w b t cs o now mb D vs L){c:Nat}(hc:Fp b mb vs c):c<w.heap.size:=by
 rcases hc with rfl|hc|⟨k,hk,hc⟩
 ·exact h.lt
 ·rcases h.map with⟨h1,_⟩|⟨bm,n,h1,_,hm⟩
  ·rw[h1] at hc;cases hc
  ·rw[h1] at hc;cases hc;exact hm.lt
 ·exact(h.own k hk).lt' hc
def SpR(w W:World)(b:Nat)(t:TypeId)(cs:Array Value)(o:Nat)(now:Int)(mb:Option Nat)(D:DataW Unit)(vs:Nat->Value)(ov lv:Value)(ls:List Int)(s:(Nat->List Int)×List Int)(tv:Value)(cs':Array Value)(vs':Nat->Value):Prop:=
 Mid W b t cs' o now mb D vs' s.1 tv s.2/\Own W lv ls/\ql5 lv (Fp b mb vs')/\(∀c,tv.ownBlock=some c->lv.ownBlock≠some c)/\qb7 o cs cs'/\Gr (fun c=>Fp b mb vs c\/ov.ownBlock=some c) w W/\(∀c,Fp b mb vs' c->Fp b mb vs c\/w.heap.size<=c)/\(∀c,tv.ownBlock=some c->ov.ownBlock=some c\/w.heap.size<=c)
section
variable {w W:World} {b:Nat} {t:TypeId} {cs:Array Value} {o:Nat} {now:Int} {mb:Option Nat} {D:DataW Unit} {vs:Nat->Value} {ov lv:Value} {ls:List Int} {s:(Nat->List Int)×List Int} {tv:Value} {cs':Array Value} {vs':Nat->Value}
theorem SpR.due(h:SpR w W b t cs o now mb D vs ov lv ls s tv cs' vs'){w1 w2:World}(h1:Below W.heap.size W w1){v2:Value}{l2:List Int}(hg:w1.grownBy w2 tv.ownBlock)(ho:Own w2 v2 l2)(hl:v2.ownBlock=tv.ownBlock\/v2.ownBlock=some w1.heap.size):SpR w w2 b t cs o now mb D vs ov lv ls (s.1,l2) v2 cs' vs':=by
 obtain⟨hm,hls,hln,htl,hso,hgr,hfp,htv⟩:=h
 have g1:Gr (fun c=>tv.ownBlock=some c) W w2:=(Gr.of_below h1).trans (Gr.of_grown (F:=fun c=>tv.ownBlock=some c) hg (fun c hc=>hc)) (fun x hx=>.inl hx)
 have hsz:=h1.size
 refine⟨⟨hm.wm.keep g1 (fun c hc hd=>hm.out c hd hc),ho,fun c hc hf=>?_⟩,hls.keepGr g1 (fun c hc hd=>htl c hd hc),hln,fun c hc hd=>?_,hso,hgr.trans g1 (fun x hx=>?_),hfp,fun c hc=>?_⟩
 ·rcases hl with hl|hl
  ·exact hm.out c (hl▸hc) hf
  ·rw[hl] at hc;cases hc;have:=Mid.fp_lt hm.wm hf;omega
 ·rcases hl with hl|hl
  ·exact htl c (hl▸hc) hd
  ·rw[hl] at hc;cases hc;have:=hls.lt' hd;omega
 ·rcases htv x hx with h2|h2
  ·exact .inl (.inr h2)
  ·exact .inr h2
 ·rcases hl with hl|hl
  ·exact htv c (hl▸hc)
  ·rw[hl] at hc;cases hc;have:=hgr.size;exact .inr om
theorem SpR.put(h:SpR w W b t cs o now mb D vs ov lv ls s tv cs' vs'){w2:World}{cs2:Array Value}{vs2:Nat->Value}{L2:Nat->List Int}(hw:WM w2 b t cs2 o now mb D vs2 L2)(hso2:qb7 o cs' cs2)(hg:Gr (Fp b mb vs') W w2)(hf2:∀c,Fp b mb vs2 c->Fp b mb vs' c\/W.heap.size<=c):SpR w w2 b t cs o now mb D vs ov lv ls (L2,s.2) tv cs2 vs2:=by
 obtain⟨hm,hls,hln,htl,hso,hgr,hfp,htv⟩:=h
 have hsz:=hgr.size
 refine⟨⟨hw,hm.own.keepGr hg hm.out,fun c hc hf=>?_⟩,hls.keepGr hg hln,fun c hc hf=>?_,htl,hso.trans hso2,hgr.trans hg (fun x hx=>?_),fun c hc=>?_,htv⟩
 ·rcases hf2 c hf with h2|h2
  ·exact hm.out c hc h2
  ·have:=hm.own.lt' hc;omega
 ·rcases hf2 c hf with h2|h2
  ·exact hln c hc h2
  ·have:=hls.lt' hc;omega
 ·rcases hfp x hx with h2|h2
  ·exact .inl (.inl h2)
  ·exact .inr h2
 ·rcases hf2 c hc with h2|h2
  ·exact hfp c h2
  ·exact .inr om
end
theorem qzn{w:World}{b o:Nat}{t:TypeId}{cs:Array Value}{now:Nat}{mb:Option Nat}{D:DataW Unit}{vs:Nat->Value}{L:Nat->List Int}{ov:Value}{off:List Int}(h:Mid w b t cs o (now:Int) mb D vs L ov off)(z:Int->Int)(hz:Says D z)(hwf:∀k i,i∈L k->(Lit.int .i64 i).wf=true)(hn:now<=1099511627776)(l a:Nat)(hl:l<7)(ha:a<64)(hM:∀m,(L m).length+(L (64*l+a)).length<=1000000000)(hO:off.length+(L (64*l+a)).length<=1000000000)(hmb:mb=none->∀k,L k=[]):
  Calls prog 174 #[.pointer (some ⟨b,o,none⟩),.int .i64 (l:Int),.int .i64 (a:Int),ov] w fun e w'=>∃cs' vs' ov',e=.returned ov'/\Mid w' b t cs' o (now:Int) mb D vs' (sprF (now:Int) z (L,off) (64*l+a)).1 ov' (sprF (now:Int) z (L,off) (64*l+a)).2/\qb7 o cs cs'/\Gr (fun c=>Fp b mb vs c\/ov.ownBlock=some c) w w'/\(∀c,Fp b mb vs' c->Fp b mb vs c\/w.heap.size<=c)/\(∀c,ov'.ownBlock=some c->ov.ownBlock=some c\/w.heap.size<=c):=by
 have hwm:=h.wm
 have hk:64*l+a<448:=by omega
 have hI7:=fun w=>idx7 b (o+2) l om w
 have hI64:=fun w=>qy0 b (o+2+64*l) a om w
 have ho:o+2+64*l+a=o+2+(64*l+a):=by omega
 have cl:w.cell? ⟨b,o+2+64*l+a,none⟩=some (vs (64*l+a)):=by rw[ho];exact(hwm.cell _).trans (hwm.cl _ hk)
 have fl:w.frozen? ⟨b,o+2+64*l+a,none⟩=false:=hwm.free _
 have hq:=hwm.turnL hk (w2:=w) (l':=[]) ⟨rfl,rfl,rfl,Nat.le_refl _,fun _ _ _=>rfl⟩ (World.ownsRow_nil w 0 3 1:Own w (.slice none 0 0) []) (fun _=>rfl) (.inl rfl) ho
 have hlo:Own (w.setCell ⟨b,o+2+64*l+a,none⟩ (.slice none 0 0)) (vs (64*l+a)) (L (64*l+a)):=(hwm.own _ hk).keepGr (F:=fun c=>c=b) (Gr.setCell w b _ _ rfl) (fun c hc e=>hwm.notb _ hk (by rw[hc,e]))
 have hov:Own (w.setCell ⟨b,o+2+64*l+a,none⟩ (.slice none 0 0)) ov off:=h.own.keepGr (F:=fun c=>c=b) (Gr.setCell w b _ _ rfl) (fun c hc e=>h.out c hc (.inl e))
 have hln:ql5 (vs (64*l+a)) (Fp b mb (updV vs (64*l+a) (.slice none 0 0))):=by
  intro c hc hf
  rcases hf with rfl|hf|⟨j,hj,hf⟩
  ·exact hwm.notb _ hk hc
  ·rcases hwm.map with⟨h1,_⟩|⟨bm,n,h1,_,hm⟩
   ·rw[h1] at hf;cases hf
   ·rw[h1] at hf;cases hf;exact(hwm.own _ hk).ne_map hm hc
  ·by_cases e:j=64*l+a
   ·rw[e] at hf;simp[updV,Value.ownBlock] at hf
   ·simp only[updV,if_neg e] at hf
    exact e (hwm.apart j _ c hj hk hf hc)
 have hon:ql5 ov (Fp b mb (updV vs (64*l+a) (.slice none 0 0))):=fun c hc hf=>(hq.2.2.2 c hf).elim (h.out c hc) (fun h2=>by have:=h.own.lt' hc;omega)
 have hlv:∀c,(vs (64*l+a)).ownBlock=some c->ov.ownBlock≠some c:=fun c hc hd=>h.out c hd (.inr (.inr ⟨_,hk,hc⟩))
 have hfpl:∀c,(vs (64*l+a)).ownBlock=some c->c<w.heap.size:=fun c hc=>(hwm.own _ hk).lt' hc
 have hGr0:Gr (fun c=>Fp b mb vs c\/ov.ownBlock=some c) w (w.setCell ⟨b,o+2+64*l+a,none⟩ (.slice none 0 0)):=hq.2.2.1.mono (fun x hx=>.inl hx)
 have hws:(w.setCell ⟨b,o+2+64*l+a,none⟩ (.slice none 0 0)).heap.size=w.heap.size:=by simp[World.setCell]
 have HQ:Hid (WM (w.setCell ⟨b,o+2+64*l+a,none⟩ (.slice none 0 0)) b t (cs.setIfInBounds (o+2+64*l+a) (.slice none 0 0)) o (now:Int) mb D (updV vs (64*l+a) (.slice none 0 0)) (setL L (64*l+a) [])):=hq.1
 have hso:=hq.2.1
 have hfp:=hq.2.2.2
 obtain⟨al,cap,hvl⟩:=(show ∃a' c',vs (64*l+a)=.slice a' (L (64*l+a)).length c' by
  rcases(hwm.own _ hk).2 with⟨e,n0⟩|⟨g,cap,cur,e,_⟩
  ·exact⟨none,0,by rw[e,n0]⟩
  ·exact⟨_,_,e⟩)
 have hmb':L (64*l+a)≠[]->∃bm,mb=some bm:=fun hne=>by rcases mb with _|bm;exact absurd (hmb rfl _) hne;exact⟨bm,rfl⟩
 have hsp:sprF (now:Int) z (L,off) (64*l+a)=(L (64*l+a)).foldl (sprS (now:Int) z) (setL L (64*l+a) [],off):=rfl
 rw[hsp]
 have hwl:∀i∈L (64*l+a),(Lit.int .i64 i).wf=true:=fun i hi=>hwf _ i hi
 have hML:∀m,((setL L (64*l+a) []) m).length+(L (64*l+a)).length<=1000000000:=by
  intro m
  by_cases e:m=64*l+a
  ·simp only[setL,if_pos e];have:=hM m;simp;omega
  ·simp only[setL,if_neg e];exact hM m
 generalize setL L (64 * l+a) []=L0 at *
 generalize updV vs (64 * l+a) (.slice none 0 0)=vs0 at *
 generalize cs.setIfInBounds (o+2+64 * l+a) (.slice none 0 0)=cs0 at *
 rw[hvl] at cl hlo hln hlv hfpl
 generalize L (64 * l+a)=ls at *
 obtain⟨N,hN⟩:∃N,N=ls.length:=⟨_,rfl⟩
 rw[←hN] at cl hlo hln hlv hfpl hML
 have HN:Hid (N=ls.length):=hN
 have HSO:Hid (qb7 o cs cs0):=hso
 have hNb:N<=1000000000:=by rw[hN];omega
 have HO':Hid (off.length+N<=1000000000):=by rw[hN];exact hO
 have hlo':Hid (Own (w.setCell ⟨b,o+2+64*l+a,none⟩ (.slice none 0 0)) (.slice al N cap) ls):=by
  have e:Value.slice al N cap=.slice al ls.length cap:=by rw[hN]
  rw[e];rw[hN] at hlo;exact hlo
 clear hq hsp hN hso h hwm hvl hlo ho hM hO hmb
 go_enter func174,ntmps174
 go_wp2
 go_loopw [3,29] (fun tv i W=>∃j:Nat,j<=N/\i=.int .i64 (j:Int)/\∃cs' vs',SpR w W b t cs o (now:Int) mb D vs ov (.slice al N cap) ls ((ls.take j).foldl (sprS (now:Int) z) (L0,off)) tv cs' vs') (fun _ i _=>N-(intOf i).toNat)
 case atStart=>exact⟨0,Nat.zero_le _,rfl,cs0,vs0,⟨HQ.out,hov,hon⟩,hlo'.out,hln,fun c hc hd=>hlv c hd hc,HSO.out,hGr0,hfp,fun c hc=>.inl hc⟩
 case round=>
  clear hov hlo' HQ hln hon hlv cl fl hGr0 hws HSO hfp
  obtain⟨j,hjN,rfl,cs',vs',hR⟩:=hrel
  obtain⟨hmid,hls,hlsn,htl,hso,hgr,hfpx,htv⟩:=id hR
  by_cases hlt:j<N
  ·have hjl:j<ls.length:=by have:=HN.out;omega
   have hji:(j:Int)<(N:Int):=by omega
   have hjw:wrap64 ((j:Int)+1)=(j:Int)+1:=by unfold wrap64;omega
   obtain⟨g,cap',cur,hsh,hg,_,_,_,ht⟩:=hls.shape om
   obtain⟨rfl,hNe,rfl⟩:al=some ⟨g,0,none⟩/\N=ls.length/\cap=cap':=by simpa using hsh
   have hix:=fun w=>ixI g N cap j hlt w
   have hcx:=(qia hg j).trans (qis ht j hjl)
   have hwx:=hwl ls[j] (List.getElem_mem hjl)
   obtain⟨hat,hz0,hz1⟩:=hz ls[j] hwx
   have hst:=qta (sprS (now:Int) z) (L0,off) ls j hjl
   have hsl:=fun m=>q81 (now:Int) z (ls.take j) (L0,off) m
   have htk:(ls.take j).length=j:=by simp;omega
   simp only[htk] at hsl
   have hmeas:Hid (N-((j:Int)+1).toNat<N-((j:Int)).toNat):=(by omega:N-((j:Int)+1).toNat<N-((j:Int)).toNat)
   have HNE:Hid (N=ls.length):=hNe
   clear hsh hNe ht
   generalize ls[j]=x at *
   have HST:Hid (List.foldl (sprS (now:Int) z) (L0,off) (List.take (j+1) ls)=sprS (now:Int) z (List.foldl (sprS (now:Int) z) (L0,off) (List.take j ls)) x):=hst
   clear hst
   generalize List.foldl (sprS (now:Int) z) (L0,off) (List.take j ls)=sj at *
   obtain⟨bm,rfl⟩:=hmb' (fun e=>by rw[e] at hjl;simp at hjl)
   obtain⟨n,hn',hm⟩:=hmid.wm.theMap
   have hkey:=keyOf_int_mk (P:=prog) (q:=.i64) (a:=x) underlying3 hwx
   have c0:=(hmid.wm.cell o).trans hmid.wm.c0
   have c1:=(hmid.wm.cell (o+1)).trans hmid.wm.c1
   have hlook:∀W,MapI W bm n D->(Instr.lookup 85 (.map (some bm)) (.int .i64 x) false).run prog W=.ok (.int .i64 (z x)) W:=by
    intro W hW
    obtain⟨c,h1,h2,_⟩:=hW.lookup_int lawI underlying85 underlying3 (qjv _) hkey
    rw[h1,qm8 hat h2]
   have hOl:sj.2.length<=1000000000:=by have q1:=(hsl 0).2;have q2:=HO'.out;omega
   have hLl:∀m,(sj.1 m).length<=1000000000:=by intro m;have q1:=(hsl m).1;have q2:=hML m;omega
   have HL:Hid (∀m,(sj.1 m).length<=1000000000):=hLl
   clear hsl hLl hML hwl htk
   by_cases hdue:z x<=(now:Int)
   ·have hs':sprS (now:Int) z sj x=(sj.1,sj.2++[x]):=by unfold sprS;rw[if_pos hdue]
    have HS:Hid (sprS (now:Int) z sj x=(sj.1,sj.2++[x])):=hs'
    clear hs'
    go_upto_region 6 with fail
    refine RD (fun W=>W.cell? ⟨b,o,none⟩=some (.int .i64 (now:Int))/\W.cell? ⟨b,o+1,none⟩=some (.map (some bm))/\MapI W bm n D) ⟨c0,c1,hm⟩ (fun _=>?_)
    refine tq 0 (.pointer (some ⟨b,o,none⟩)) rfl ⟨c0,c1,hm⟩ (tq 1 (.pointer (some ⟨b,o,none⟩)) rfl ⟨c0,c1,hm⟩ (tq 2 (.pointer (some ⟨b,o+1,none⟩)) rfl ⟨c0,c1,hm⟩ ?_))
    simp only[ZZ]
    refine tk 3 (.map (some bm)) rfl (Or.inl ⟨by kernel_rfl,by intro w hS;have hc:=hS.2.1;go_simp⟩) ⟨c0,c1,hm⟩ (tq 4 (.int .i64 x) rfl ⟨c0,c1,hm⟩ (tk 5 (.int .i64 (z x)) rfl (Or.inl ⟨by kernel_rfl,by intro w hS;have hc:=hlook w hS.2.2;go_simp⟩) ⟨c0,c1,hm⟩ ?_))
    simp only[ZZ]
    refine tq 6 (.pointer (some ⟨b,o,none⟩)) rfl ⟨c0,c1,hm⟩ (tq 7 (.pointer (some ⟨b,o,none⟩)) rfl ⟨c0,c1,hm⟩ (tq 8 (.pointer (some ⟨b,o,none⟩)) rfl ⟨c0,c1,hm⟩ ?_))
    simp only[ZZ]
    refine tk 9 (.int .i64 (now:Int)) rfl (Or.inl ⟨by kernel_rfl,by intro w hS;have hc:=hS.1;go_simp⟩) ⟨c0,c1,hm⟩ (tq 10 (.bool true) rfl ⟨c0,c1,hm⟩ ?_)
    simp only[ZZ]
    refine AN ?_
    go_wp2_with (first|(at_builtin;refine qz6 (v:=u3) rfl (.tmp 44) (.tmp 46) rfl rfl (hmid.own.alloc' _) _ x rfl (World.cell?_alloc_mark _ #[.int .i64 x] 3 (0,0) 0) hOl ?_;intro a2 k2 w2 ho2 hg2 hl2))
    go_roundw
    case rel=>
     refine⟨j+1,by omega,by go_num,cs',vs',?_⟩
     rw[HST.out,HS.out]
     exact SpR.due hR ((Below.refl _ _).alloc (Nat.le_refl _) _) (qf7 hg2) ho2 hl2
    case measure=>first|exact hmeas.out|(rw[hjw];exact hmeas.out)
   ·have hs':sprS (now:Int) z sj x=(putF (now:Int) z sj.1 x,sj.2):=by unfold sprS;rw[if_neg hdue]
    have HS:Hid (sprS (now:Int) z sj x=(putF (now:Int) z sj.1 x,sj.2)):=hs'
    clear hs'
    obtain⟨d,hd⟩:∃d:Nat,z x=(d:Int):=⟨(z x).toNat,by omega⟩
    have CP:=ql3 hmid.wm.drew x d hwx (by rw[←hd];exact hat) hn om (HL.out _)
    have hpf:Hid (putF (now:Int) z sj.1 x=setL sj.1 (pk now d) (sj.1 (pk now d)++[x])):=by show putF (now:Int) z sj.1 x=_;unfold putF;rw[hd];rfl
    clear hd
    go_upto_region 6 with fail
    refine RD (fun W=>W.cell? ⟨b,o,none⟩=some (.int .i64 (now:Int))/\W.cell? ⟨b,o+1,none⟩=some (.map (some bm))/\MapI W bm n D) ⟨c0,c1,hm⟩ (fun _=>?_)
    refine tq 0 (.pointer (some ⟨b,o,none⟩)) rfl ⟨c0,c1,hm⟩ (tq 1 (.pointer (some ⟨b,o,none⟩)) rfl ⟨c0,c1,hm⟩ (tq 2 (.pointer (some ⟨b,o+1,none⟩)) rfl ⟨c0,c1,hm⟩ ?_))
    simp only[ZZ]
    refine tk 3 (.map (some bm)) rfl (Or.inl ⟨by kernel_rfl,by intro w hS;have hc:=hS.2.1;go_simp⟩) ⟨c0,c1,hm⟩ (tq 4 (.int .i64 x) rfl ⟨c0,c1,hm⟩ (tk 5 (.int .i64 (z x)) rfl (Or.inl ⟨by kernel_rfl,by intro w hS;have hc:=hlook w hS.2.2;go_simp⟩) ⟨c0,c1,hm⟩ ?_))
    simp only[ZZ]
    refine tq 6 (.pointer (some ⟨b,o,none⟩)) rfl ⟨c0,c1,hm⟩ (tq 7 (.pointer (some ⟨b,o,none⟩)) rfl ⟨c0,c1,hm⟩ (tq 8 (.pointer (some ⟨b,o,none⟩)) rfl ⟨c0,c1,hm⟩ ?_))
    simp only[ZZ]
    refine tk 9 (.int .i64 (now:Int)) rfl (Or.inl ⟨by kernel_rfl,by intro w hS;have hc:=hS.1;go_simp⟩) ⟨c0,c1,hm⟩ (tq 10 (.bool false) rfl ⟨c0,c1,hm⟩ ?_)
    simp only[ZZ]
    refine AN ?_
    go_wp2_with (first|(go_at_call 184;refine CP.mono ?_;rintro e w2 ⟨rfl,cs2,vs2,hw2,hso2,hgr2,hfp2⟩))
    go_roundw
    case rel=>
     refine⟨j+1,by omega,by go_num,cs2,vs2,?_⟩
     rw[HST.out,HS.out,hpf.out]
     exact SpR.put hR hw2 hso2 hgr2.undrew hfp2
    case measure=>first|exact hmeas.out|(rw[hjw];exact hmeas.out)
  ·have hji:¬(j:Int)<(N:Int):=by omega
   go_wp2
   go_ret
   have e:List.take j ls=ls:=List.take_of_length_le (by have:=HN.out;omega)
   rw[e] at hmid
   exact⟨cs',vs',_,rfl,hmid,hso,hgr,hfpx,htv⟩
def sumR(n:Nat)(L:Nat->List Int):Nat:=((List.range n).map fun k=>(L k).length).sum
theorem qib(n:Nat)(L:Nat->List Int):sumR (n+1) L=sumR n L+(L n).length:=by simp[sumR,List.range_succ]
theorem q56(n k:Nat)(L:Nat->List Int)(l:List Int)(h:n<=k):sumR n (setL L k l)=sumR n L:=by
 induction n with
 | zero=>rfl
 | succ n ih=>rw[qib,qib,ih om];simp[setL,show n≠k by omega]
theorem qnh(n k:Nat)(L:Nat->List Int)(l:List Int)(h:k<n):sumR n (setL L k l)+(L k).length=sumR n L+l.length:=by
 induction n with
 | zero=>omega
 | succ n ih=>
  rw[qib,qib]
  by_cases e:k=n
  ·subst e;rw[q56 k k L l (Nat.le_refl _)];simp[setL];omega
  ·have:=ih om;simp[setL,show n≠k by omega];omega
theorem qr8(n k:Nat)(L:Nat->List Int)(h:k<n):(L k).length<=sumR n L:=by
 induction n with
 | zero=>omega
 | succ n ih=>
  rw[qib]
  by_cases e:k=n
  ·subst e;omega
  ·have:=ih om;omega
structure Tot(T:Nat)(s:(Nat->List Int)×List Int):Prop where
 sum:sumR 448 s.1+s.2.length=T
 beyond:∀m,448<=m->s.1 m=[]
 wf:∀k i,i∈s.1 k->(Lit.int .i64 i).wf=true
theorem Tot.le{T:Nat}{s:(Nat->List Int)×List Int}(h:Tot T s)(m:Nat):(s.1 m).length<=T:=by
 have:=h.sum
 by_cases hm:m<448
 ·have:=qr8 448 m s.1 hm;omega
 ·rw[h.beyond m om];simp
theorem Tot.off{T:Nat}{s:(Nat->List Int)×List Int}(h:Tot T s):s.2.length<=T:=by have:=h.sum;omega
theorem q2h{T:Nat}(now:Int)(z:Int->Int)(hn:0<=now/\now<=1099511627776)(hz:∀i,0<=z i/\z i<=1099511627776)(l:List Int)(s:(Nat->List Int)×List Int)(h:Tot T s)(hl:∀i∈l,(Lit.int .i64 i).wf=true):Tot (T+l.length) (l.foldl (sprS now z) s):=by
 induction l generalizing s T with
 | nil=>exact h
 | cons i r ih=>
  rw[List.foldl_cons,List.length_cons,show T+(r.length+1)=(T+1)+r.length by omega]
  apply ih
  ·unfold sprS
   by_cases hd:z i<=now
   ·rw[if_pos hd]
    exact⟨by have:=h.sum;simp;omega,h.beyond,h.wf⟩
   ·rw[if_neg hd]
    have hp:pk now.toNat (z i).toNat<448:=qug _ _ om (by have:=hz i;omega)
    refine⟨?_,fun m hm=>?_,fun k j hj=>?_⟩
    ·have:=qnh 448 _ s.1 (s.1 (pk now.toNat (z i).toNat)++[i]) hp
     have:=h.sum
     simp only[putF,List.length_append,List.length_cons,List.length_nil] at *
     omega
    ·simp only[putF,setL,if_neg (show m≠pk now.toNat (z i).toNat by omega)]
     exact h.beyond m hm
    ·simp only[putF,setL] at hj
     split at hj
     ·rcases List.mem_append.1 hj with h1|h1
      ·exact h.wf _ j h1
      ·have:j=i:=by simpa using h1
       subst this;exact hl j zm
     ·exact h.wf k j hj
  ·exact fun j hj=>hl j (by simp[hj])
theorem qyj{T:Nat}(now:Int)(z:Int->Int)(hn:0<=now/\now<=1099511627776)(hz:∀i,0<=z i/\z i<=1099511627776)(s:(Nat->List Int)×List Int)(h:Tot T s)(k:Nat)(hk:k<448):Tot T (sprF now z s k):=by
 have hs:=qnh 448 k s.1 [] hk
 have h0:Tot (T-(s.1 k).length) (setL s.1 k [],s.2):=by
  refine⟨by have:=h.sum;simp at *;omega,fun m hm=>?_,fun j i hi=>?_⟩
  ·simp only[setL,if_neg (show m≠k by omega)];exact h.beyond m hm
  ·simp only[setL] at hi
   split at hi
   ·cases hi
   ·exact h.wf j i hi
 have h1:=q2h now z hn hz (s.1 k) _ h0 (fun i hi=>h.wf k i hi)
 have e:T-(s.1 k).length+(s.1 k).length=T:=by have:=h.le k;omega
 rw[e] at h1
 exact h1
theorem WM.setNow{w:World}{b o:Nat}{t:TypeId}{cs:Array Value}{now:Int}{mb:Option Nat}{D:DataW Unit}{vs:Nat->Value}{L:Nat->List Int}(h:WM w b t cs o now mb D vs L)(n:Int):
  WM (w.setCell ⟨b,o,none⟩ (.int .i64 n)) b t (cs.setIfInBounds o (.int .i64 n)) o n mb D vs L/\qb7 o cs (cs.setIfInBounds o (.int .i64 n))/\Gr (Fp b mb vs) w (w.setCell ⟨b,o,none⟩ (.int .i64 n)):=by
 have hsz:=h.size
 have hg:Gr (fun c=>c=b) w (w.setCell ⟨b,o,none⟩ (.int .i64 n)):=Gr.setCell w b o _ rfl
 refine⟨⟨heap_setCell_same w b _ _ t _ h.row,by simpa using hsz,?_,?_,fun j hj=>?_,fun j hj=>?_,h.nil,h.apart,h.notb,?_⟩,qb7.set o _ cs _ om om,hg.mono (fun x hx=>.inl hx)⟩
 ·rw[Array.getElem?_setIfInBounds_self_of_lt om]
 ·rw[Array.getElem?_setIfInBounds_ne om];exact h.c1
 ·rw[Array.getElem?_setIfInBounds_ne om];exact h.cl j hj
 ·exact(h.own j hj).keepGr hg (fun c hc e=>h.notb j hj (by rw[hc,e]))
 ·rcases h.map with h1|⟨bm,k,h1,h2,h3⟩
  ·exact .inl h1
  ·exact .inr ⟨bm,k,h1,h2,h3.setCell (h3.ne_row h.row) _⟩
def TuR(w W:World)(b:Nat)(t:TypeId)(cs:Array Value)(o:Nat)(now:Int)(mb:Option Nat)(D:DataW Unit)(vs:Nat->Value)(T:Nat)(s:(Nat->List Int)×List Int)(tv:Value):Prop:=
 ∃cs' vs',Mid W b t cs' o now mb D vs' s.1 tv s.2/\qb7 o cs cs'/\Gr (Fp b mb vs) w W/\(∀c,Fp b mb vs' c->Fp b mb vs c\/w.heap.size<=c)/\(∀c,tv.ownBlock=some c->w.heap.size<=c)/\Tot T s/\(mb=none->∀k,s.1 k=[])
theorem q6y(now:Int)(z:Int->Int)(s:(Nat->List Int)×List Int)(k:Nat)(h:∀k,s.1 k=[]):∀m,(sprF now z s k).1 m=[]:=by
 intro m
 unfold sprF
 rw[h k]
 simp only[List.foldl_nil,setL]
 split
 ·rfl
 ·exact h m
section
variable {w W:World} {b:Nat} {t:TypeId} {cs:Array Value} {o:Nat} {now:Nat} {mb:Option Nat} {D:DataW Unit} {vs:Nat->Value} {T:Nat} {s:(Nat->List Int)×List Int} {tv:Value}
theorem TuR.spread(h:TuR w W b t cs o (now:Int) mb D vs T s tv)(z:Int->Int)(hz:Says D z)(hzz:∀i,0<=z i/\z i<=1099511627776)(hn:now<=1099511627776)(hT:T<=1000000)(l a:Nat)(hl:l<7)(ha:a<64):
  Calls prog 174 #[.pointer (some ⟨b,o,none⟩),.int .i64 (l:Int),.int .i64 (a:Int),tv] W fun e w'=>∃ov',e=.returned ov'/\TuR w w' b t cs o (now:Int) mb D vs T (sprF (now:Int) z s (64*l+a)) ov':=by
 obtain⟨cs',vs',hm,hso,hgr,hfp,htv,htot,hmb⟩:=h
 have hle:=fun m=>htot.le m
 have hof:=htot.off
 refine(qzn hm z hz htot.wf hn l a hl ha (fun m=>by have:=hle m;have:=hle (64*l+a);omega) (by have:=hle (64*l+a);omega) hmb).mono ?_
 rintro e w' ⟨cs2,vs2,ov',rfl,hm2,hso2,hg2,hfp2,hov2⟩
 refine⟨ov',rfl,cs2,vs2,hm2,hso.trans hso2,hgr.trans hg2 (fun x hx=>?_),fun c hc=>?_,fun c hc=>?_,qyj _ z om hzz s htot _ om,fun h0=>q6y _ z s _ (hmb h0)⟩
 ·rcases hx with hx|hx
  ·exact hfp x hx
  ·exact .inr (htv x hx)
 ·rcases hfp2 c hc with h1|h1
  ·exact hfp c h1
  ·have:=hgr.size;exact .inr om
 ·rcases hov2 c hc with h1|h1
  ·exact htv c h1
  ·have:=hgr.size;omega
end
theorem hid{p:Prop}(h:p):Hid p:=h
theorem qha{p n:Nat}(h:p<n):Hid (n-((p:Int)+1).toNat<n-((p:Int)).toNat):=(by omega:n-((p:Int)+1).toNat<n-((p:Int)).toNat)
theorem qxu(d q:Nat):Hid (((d+q:Nat):Int)+1=((d+(q+1):Nat):Int)):=(by omega:((d+q:Nat):Int)+1=((d+(q+1):Nat):Int))
theorem qhl{p:Nat}(h:p<1000000000000):wrap64 ((p:Int)+1)=(p:Int)+1:=by unfold wrap64;omega
theorem q1k(l d i:Nat):rowP l d (i+1)=rowP l d i++[64*l+(d+i)]:=by unfold rowP;rw[List.range_succ,List.map_append];rfl
theorem qtf(now:Int)(z:Int->Int)(s:(Nat->List Int)×List Int)(l d i:Nat):(rowP l d (i+1)).foldl (sprF now z) s=sprF now z ((rowP l d i).foldl (sprF now z) s) (64*l+(d+i)):=by rw[q1k,List.foldl_append];rfl
theorem qsz(a:Nat)(now:Int)(z:Int->Int)(s:(Nat->List Int)×List Int)(l:Nat):(List.range (l+1)).foldl (levF a now z) s=levF a now z ((List.range l).foldl (levF a now z) s) l:=by rw[List.range_succ,List.foldl_append];rfl
theorem sZxw22{p:Prop}(h:p:=by
 go_wp2_with (first|(go_at_call 174;go_fit CS;rintro e w2 ⟨ov2,rfl,hR2⟩))
 go_roundw
 case rel=>exact⟨q+1,HQ.out,congrArg (Value.int IntKind.i64) (by first|exact HE.out|exact hqw.trans HE.out),hR2⟩
 case measure=>first|exact HM2.out|(rw[hqw];exact HM2.out)):p:=h
theorem q2w{w:World}{b o:Nat}{t:TypeId}{cs:Array Value}{A tn:Nat}{mb:Option Nat}{D:DataW Unit}{vs:Nat->Value}{L:Nat->List Int}{T:Nat}(h:WM w b t cs o (A:Int) mb D vs L)(z:Int->Int)(hz:Says D z)(hzz:∀i,0<=z i/\z i<=1099511627776)(hA:A<=tn)(hto:tn<=1099511627776)(hT:T<=1000000)(htot:Tot T (L,[]))(hmb:mb=none->∀k,L k=[]):
  Calls prog 145 #[.pointer (some ⟨b,o,none⟩),.int .i64 (tn:Int)] w fun e w'=>∃ov,e=.returned ov/\TuR w w' b t cs o (tn:Int) mb D vs T (qex (A:Int) (tn:Int) z L) ov:=by
 have c0:=(h.cell o).trans h.c0
 have f0:=h.free o
 have CP:=fun w h=>qoh b o A tn om hto w h
 have htp:=qpa tn A hto om
 have hl64:=qgt tn (lv tn A)
 have hturn:qex (A:Int) (tn:Int) z L=(rowP (lv tn A) (dg A (lv tn A)) (dg tn (lv tn A)+1-dg A (lv tn A))).foldl (sprF (tn:Int) z) ((List.range (lv tn A)).foldl (levF A (tn:Int) z) (L,[])):=rfl
 rw[hturn]
 have hle:dg A (lv tn A)<=dg tn (lv tn A):=(qnt A tn om om hA).1
 obtain⟨hw1,hso1,hg1⟩:=h.setNow (tn:Int)
 have h1:TuR w (w.setCell ⟨b,o,none⟩ (.int .i64 (tn:Int))) b t cs o (tn:Int) mb D vs T (L,[]) (.slice none 0 0):=
  ⟨_,_,⟨hw1,World.ownsRow_nil _ _ _ _,fun c hc=>by simp[Value.ownBlock] at hc⟩,hso1,hg1,fun c hc=>.inl hc,fun c hc=>by simp[Value.ownBlock] at hc,htot,hmb⟩
 clear hw1 hso1 hg1 hturn h hmb htot
 generalize lv tn A=top at *
 generalize dg tn top=last at *
 have DG:=fun l (hl:l<=6) w=>qsu A l om hl w
 have DGt:=fun w=>DG top htp w
 have hd1:=qgt A top
 generalize dg A top=d1 at *
 go_enter func145,ntmps145
 go_wp2_with (first|(go_at_call 172;refine(CP _ c0).mono ?_;rintro e w' ⟨rfl,hw⟩;rw[hw];clear hw w'))
 go_loopw [8,27] (fun tv i W=>∃l:Nat,l<=top/\i=.int .i64 (l:Int)/\TuR w W b t cs o (tn:Int) mb D vs T ((List.range l).foldl (levF A (tn:Int) z) (L,[])) tv) (fun _ i _=>top-(intOf i).toNat)
 case atStart=>exact⟨0,Nat.zero_le _,rfl,h1⟩
 case round=>
  clear h1 c0 f0
  obtain⟨l,hl,rfl,hR⟩:=hrel
  by_cases hlt:l<top
  ·have hli:(l:Int)<(top:Int):=by omega
   have hlw:=qhl (p:=l) om
   have DGl:=fun w=>DG l om w
   have hd64:=qgt A l
   have HM:=qha hlt
   have hsn0:=qsz A (tn:Int) z (L,[]) l
   unfold levF at hsn0
   obtain⟨sl,hsl⟩:∃sl,sl=(List.range l).foldl (levF A (tn:Int) z) (L,[]):=⟨_,rfl⟩
   have HSN:Hid ((List.range (l+1)).foldl (levF A (tn:Int) z) (L,[])=(rowP l (dg A l) (64-dg A l)).foldl (sprF (tn:Int) z) sl):=by show _=_;rw[hsl];exact qsz A (tn:Int) z (L,[]) l
   rw[←hsl] at hR
   clear hsl hsn0
   generalize dg A l=d0 at *
   go_wp2_with (first|(go_at_call 173;refine(DGl _).mono ?_;rintro e w' ⟨rfl,hw⟩;rw[hw];clear hw w'))
   go_loopw [8,10] (fun tv i W=>∃q:Nat,q<=64-d0/\i=.int .i64 ((d0+q:Nat):Int)/\TuR w W b t cs o (tn:Int) mb D vs T ((rowP l (d0) q).foldl (sprF (tn:Int) z) sl) tv) (fun _ i _=>64-(intOf i).toNat)
   case atStart=>exact⟨0,Nat.zero_le _,rfl,hR⟩
   case round=>
    clear hR
    obtain⟨q,hq,rfl,hR⟩:=hrel
    by_cases hqt:d0+q<64
    ·have hqi:((d0+q:Nat):Int)<64:=by omega
     have HM2:=qha hqt
     have HQ:Hid (q+1<=64-d0):=hid om
     have HE:=qxu (d0) q
     have CS:=hR.spread z hz hzz hto hT l (d0+q) om hqt
     rw[←qtf] at CS
     have hqw:=qhl (p:=d0+q) om
     clear hR
     generalize(d0+q)=p at *
     clear hlw hli hlt hl HM HSN DGl DG DGt hle hl64 hd1 htp hA hto hT hzz hz CP hd64 hq hqt
     exact sZxw22
    ·have hqi:¬((d0+q:Nat):Int)<64:=by omega
     obtain rfl:q=64-d0:=by omega
     rw[←HSN.out] at hR
     generalize((d0+(64 - d0):Nat):Int)=p at *
     have HL1:Hid (l+1<=top):=hid hlt
     clear hli hlt hl HSN DGl DG DGt hle hl64 hd1 htp hA hto hT hzz hz CP hd64 hq hqt
     go_wp2
     go_roundw
     case rel=>exact⟨l+1,HL1.out,by go_num,hR⟩
     case measure=>first|exact HM.out|(rw[hlw];exact HM.out)
  ·have hli:¬(l:Int)<(top:Int):=by omega
   obtain rfl:l=top:=by omega
   go_wp2_with (first|(go_at_call 173;refine(DGt _).mono ?_;rintro e w' ⟨rfl,hw⟩;rw[hw];clear hw w'))
   go_loopw [8,11] (fun tv i W=>∃q:Nat,q<=last+1-d1/\i=.int .i64 ((d1+q:Nat):Int)/\TuR w W b t cs o (tn:Int) mb D vs T ((rowP l (d1) q).foldl (sprF (tn:Int) z) ((List.range l).foldl (levF A (tn:Int) z) (L,[]))) tv) (fun _ i _=>last+1-(intOf i).toNat)
   case atStart=>exact⟨0,Nat.zero_le _,rfl,hR⟩
   case round=>
    clear hR
    obtain⟨q,hq,rfl,hR⟩:=hrel
    by_cases hqt:d1+q<=last
    ·have hqi:((d1+q:Nat):Int)<=(last:Int):=by omega
     have HM2:=qha (Nat.lt_succ_of_le hqt)
     have HQ:Hid (q+1<=last+1-d1):=hid om
     have HE:=qxu (d1) q
     have CS:=hR.spread z hz hzz hto hT l (d1+q) om om
     rw[←qtf] at CS
     have hqw:=qhl (p:=d1+q) om
     clear hR
     generalize(d1+q)=p at *
     clear hli hl DG DGt hle hl64 hd1 htp hA hto hT hzz hz CP hq hqt
     exact sZxw22
    ·have hqi:¬((d1+q:Nat):Int)<=(last:Int):=by omega
     obtain rfl:q=last+1-d1:=by omega
     generalize((d1+(last+1 - d1):Nat):Int)=p at *
     clear hli hl DG DGt hle hl64 hd1 htp hA hto hT hzz hz CP hq hqt
     go_wp2
     go_ret
     exact⟨_,rfl,hR⟩
end Go.Proofs.YtnicenfgemkdnaaGreatDoor
namespace Go.Proofs.YtnicenfgemkdnaaGreatDoor
open _root_.Go.Proofs.Tryz
set_option maxHeartbeats 16000000
set_option maxRecDepth 100000
open Go.Shelf
def qs1:Go.Shelf.Ren:=⟨fun|6=>146|15=>176|14=>175|28=>198|29=>199|20=>190|21=>191|22=>192|23=>193|24=>194|25=>195|26=>196|27=>197|46=>207|47=>208|48=>209|49=>210|50=>211|57=>213|n=>n,fun|22=>84|24=>3|25=>66|3=>3|39=>176|0=>0|53=>175|55=>237|4=>4|46=>230|45=>229|50=>148|5=>5|9=>9|66=>242|70=>246|76=>249|77=>214|n=>n,fun|n=>n⟩
theorem q7a:Go.Proofs.SlLaysF.n6 prog qs1:={
 mixed:=by kernel_rfl
 f6:=⟨f146.name,by decide,func146.trans (congrArg some kr)⟩
 f14:=⟨f175.name,by decide,func175.trans (congrArg some kr)⟩
 f15:=func176.trans (congrArg some kr)
 f20:=⟨f190.name,by decide,func190.trans (congrArg some kr)⟩
 f21:=⟨f191.name,by decide,func191.trans (congrArg some kr)⟩
 f22:=⟨f192.name,by decide,func192.trans (congrArg some kr)⟩
 f23:=⟨f193.name,by decide,func193.trans (congrArg some kr)⟩
 f24:=⟨f194.name,by decide,func194.trans (congrArg some kr)⟩
 f25:=⟨f195.name,by decide,func195.trans (congrArg some kr)⟩
 f26:=⟨f196.name,by decide,func196.trans (congrArg some kr)⟩
 f27:=⟨f197.name,by decide,func197.trans (congrArg some kr)⟩
 f28:=func198.trans (congrArg some kr)
 f29:=func199.trans (congrArg some kr)
 f46:=⟨f207.name,by decide,func207.trans (congrArg some kr)⟩
 f47:=func208.trans (congrArg some kr)
 f48:=func209.trans (congrArg some kr)
 f49:=⟨f210.name,by decide,func210.trans (congrArg some kr)⟩
 f50:=⟨f211.name,by decide,func211.trans (congrArg some kr)⟩
 f57:=⟨f213.name,by decide,func213.trans (congrArg some kr)⟩
 t0:=underlying0
 a0:=isAgg0
 z0:=sizeOf0
 v0:=zeroValue0
 t3:=underlying3
 a3:=isAgg3
 z3:=sizeOf3
 v3:=zeroValue3
 t4:=underlying4
 a4:=isAgg4
 z4:=sizeOf4
 v4:=zeroValue4
 t5:=underlying5
 a5:=isAgg5
 z5:=sizeOf5
 v5:=zeroValue5
 t9:=underlying9
 a9:=isAgg9
 z9:=sizeOf9
 v9:=zeroValue9
 t22:=underlying84
 a22:=isAgg84
 z22:=sizeOf84
 v22:=zeroValue84
 a24:=isAgg3
 z24:=sizeOf3
 t25:=underlying66
 a25:=isAgg66
 z25:=sizeOf66
 v25:=zeroValue66
 t39:=underlying176
 a39:=isAgg176
 z39:=sizeOf176
 v39:=zeroValue176
 t45:=underlying229
 a45:=isAgg229
 z45:=sizeOf229
 v45:=zeroValue229
 t46:=underlying230
 a46:=isAgg230
 z46:=sizeOf230
 v46:=zeroValue230
 t50:=underlying148
 a50:=isAgg148
 z50:=sizeOf148
 v50:=zeroValue148
 t53:=underlying175
 a53:=isAgg175
 z53:=sizeOf175
 v53:=zeroValue175
 t55:=underlying237
 a55:=isAgg237
 z55:=sizeOf237
 v55:=zeroValue237
 t66:=underlying242
 a66:=isAgg242
 z66:=sizeOf242
 v66:=zeroValue242
 t70:=underlying246
 a70:=isAgg246
 z70:=sizeOf246
 v70:=zeroValue246
 t76:=underlying249
 a76:=isAgg249
 z76:=sizeOf249
 v76:=zeroValue249
 t77:=underlying214
 a77:=isAgg214
 z77:=sizeOf214
 v77:=zeroValue214 }
def q5b:Go.Shelf.Ren:=⟨fun|5=>149|7=>177|n=>n,fun|22=>3|3=>3|4=>4|n=>n,fun|n=>n⟩
theorem cmpL:Go.Proofs.SlLaysC2.n5 prog q5b:={
 mixed:=by kernel_rfl
 f5:=⟨f149.name,by decide,func149.trans (congrArg some kr)⟩
 f7:=⟨f177.name,by decide,func177.trans (congrArg some kr)⟩
 t3:=underlying3
 a3:=isAgg3
 z3:=sizeOf3
 v3:=zeroValue3
 t4:=underlying4
 a4:=isAgg4
 z4:=sizeOf4
 v4:=zeroValue4
 t22:=underlying3
 a22:=isAgg3
 z22:=sizeOf3
 v22:=zeroValue3 }
end Go.Proofs.YtnicenfgemkdnaaGreatDoor
