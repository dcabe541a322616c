/-
  Of what a law stands on.
-/
import Derived.Test.YtnicenfgemkdnaaGreatDoorZxw3
set_option linter.unusedSimpArgs false
set_option linter.unusedVariables false
namespace Go.Proofs.YtnicenfgemkdnaaGreatDoor
open _root_.Go.Proofs.Tryz
set_option maxHeartbeats 16000000
set_option maxRecDepth 100000
open Go.ChangeShapes Go.WideShapes Go.ChangeAt Go.RowKit Go.Maps
theorem q7w(x y:Int)(ts:Array TypeId)(ty:TypeId)(w:World):(Builtin.max_ ts ty #[.int .i64 x,.int .i64 y]).run prog w=.ok (.int .i64 (max x y)) w:=by
 simp only[Builtin.max_,List.foldlM,Builtin.max2]
 by_cases h:x<y
 ·have e:max x y=y:=by omega
  simp[h,e]
 ·have e:max x y=x:=by omega
  simp[h,e]
theorem qnp{ops:Array Oper}{S:World->Prop}{o:Oper}{a:Act}(p q:Operand)(ts:Array TypeId)(ho:o.op=.call { callee:=.builtin .max,args:=#[p,q],argTypes:=ts })(hw:Region.wanted o (yielded ops a.tmps)=true)(x y:Int)(hx:a.eval p=.int .i64 x)(hy:a.eval q=.int .i64 y):YieldsIf prog ops S o (.int .i64 (max x y)) a:=
 .inl ⟨hw,fun w _=>by
  unfold execOp
  simp only[ho,resolve,invoke,builtin,Sem.run_bind,Sem.run_pure,Result.andThen_ok,List.map_toArray,List.map_cons,List.map_nil,hx,hy,q7w]⟩
theorem qd3{H:Type}{P:Program}(w:World){o:Oper}{a:Act}{K':Act->World->Prop}{Q:Exit->Act->World->Prop}(m x v:Operand)(t:TypeId)(hop:o.op=Op.mapUpdate t m x v)(k e:TypeId)(K:Keyed P k)(ht:P.underlying t=some (.map k e))(R:Value->Option (DataW H×List MemPlace))(b n:Nat)(D:DataW H)(hm:a.eval m=.map (some b))(hown:w.ownsMap P k R b n D)(hn:n<maxLen)(key val:Value)(kl:Lit)(hx:a.eval x=key)(hv:a.eval v=val)(hkey:keyOf P k key=some kl)(d:DataW H)(ps:List MemPlace)(hval:R val=some (d,ps))(hK:∀w',w'.ownsMap P k R b (n+1) (D.put kl d)->w.grownBy w' (some b)->K' (a.put o.dst undef) w'):o.wp P a w K' Q:=by
 obtain⟨w',hrun,r1,r2⟩:=hown.update K ht hn hkey hval
 unfold Oper.wp
 simp[execOp,hop,hm,hx,hv,hrun,Result.andThen]
 exact hK w' r1 r2
theorem WM.newMap{w:World}{b o:Nat}{t:TypeId}{cs:Array Value}{now:Int}{D:DataW Unit}{vs:Nat->Value}{L:Nat->List Int}(h:WM w b t cs o now none D vs L):
  WM ((w.alloc (.map #[] 0)).setCell ⟨b,o+1,none⟩ (.map (some w.heap.size))) b t (cs.setIfInBounds (o+1) (.map (some w.heap.size))) o now (some w.heap.size) D vs L/\qb7 o cs (cs.setIfInBounds (o+1) (.map (some w.heap.size)))/\Gr (Fp b none vs) w ((w.alloc (.map #[] 0)).setCell ⟨b,o+1,none⟩ (.map (some w.heap.size)))/\∀c,Fp b (some w.heap.size) vs c->Fp b none vs c\/w.heap.size<=c:=by
 have hsz:=h.size
 have hlt:=h.lt
 have ha:=h.alloc (.map #[] 0)
 have hg1:Gr (fun c=>c=b) (w.alloc (.map #[] 0)) ((w.alloc (.map #[] 0)).setCell ⟨b,o+1,none⟩ (.map (some w.heap.size))):=Gr.setCell _ b _ _ rfl
 have hg2:Gr (fun c=>c=b) w ((w.alloc (.map #[] 0)).setCell ⟨b,o+1,none⟩ (.map (some w.heap.size))):=(Gr.of_below (F:=fun c=>c=b) ((Below.refl _ _).alloc (Nat.le_refl _) _)).trans hg1 (fun x hx=>.inl hx)
 have hD:D=.map []:=by rcases h.map with⟨_,hD⟩|⟨_,_,e,_⟩;exact hD;cases e
 refine⟨⟨heap_setCell_same _ b _ _ t _ ha.row,by simpa using hsz,?_,?_,fun j hj=>?_,fun j hj=>?_,h.nil,h.apart,h.notb,?_⟩,qb7.set o _ cs _ om om,hg2.mono (fun x hx=>.inl hx),fun c hc=>?_⟩
 ·rw[Array.getElem?_setIfInBounds_ne om];exact h.c0
 ·rw[Array.getElem?_setIfInBounds_self_of_lt om]
 ·rw[Array.getElem?_setIfInBounds_ne om];exact h.cl j hj
 ·exact(h.own j hj).keepGr hg2 (fun c hc e=>h.notb j hj (by rw[hc,e]))
 ·refine .inr ⟨w.heap.size,0,rfl,by omega,?_⟩
  rw[hD]
  exact(World.ownsMap_made (H:=Unit) w prog 3 (plainElem prog 3)).setCell (by simp only;omega) _
 ·rcases hc with rfl|hc|hc
  ·exact .inl (.inl rfl)
  ·cases hc;exact .inr (Nat.le_refl _)
  ·exact .inl (.inr (.inr hc))
def ArmR(w w1:World)(b:Nat)(t:TypeId)(cs:Array Value)(o:Nat)(now:Nat)(du:Int->Option Int)(cnt0:Nat)(F:Nat->Prop)(i:Int)(cs1:Array Value)(bm:Nat)(D:DataW Unit)(vs1:Nat->Value)(L1:Nat->List Int):Prop:=
 WM w1 b t cs1 o (now:Int) (some bm) D vs1 L1/\qfm D du/\qhg (now:Int) (delD du i) L1/\sumR 448 L1=cnt0/\qb7 o cs cs1/\Gr F w w1/\(∀c,Fp b (some bm) vs1 c->F c\/w.heap.size<=c)
theorem q5c(du:Int->Option Int)(i d:Int):setD (delD du i) i d=setD du i d:=by funext j;unfold setD delD;split<;>rfl
theorem ArmR.fin{w w1 w2 w3:World}{b:Nat}{t:TypeId}{cs:Array Value}{o:Nat}{now:Nat}{du:Int->Option Int}{cnt0:Nat}{F:Nat->Prop}{i:Int}{cs1:Array Value}{bm:Nat}{D:DataW Unit}{vs1:Nat->Value}{L1:Nat->List Int}(h:ArmR w w1 b t cs o now du cnt0 F i cs1 bm D vs1 L1)(d:Nat)(hd:now<=d/\d<=1099511627776)(hi:(Lit.int .i64 i).wf=true)(hwf:∀i d,du i=some d->(Lit.int .i64 i).wf=true)(hc:cnt0<400)(hsz:Maps.size (D.put (kI i) (.lit (.int .i64 (d:Int))))=cnt0+1)(hg2:w1.grownBy w2 (some bm)){cs3:Array Value}{vs3:Nat->Value}(hw3:WM w3 b t cs3 o (now:Int) (some bm) (D.put (kI i) (.lit (.int .i64 (d:Int)))) vs3 (setL L1 (pk now d) (L1 (pk now d)++[i])))(hso:qb7 o cs1 cs3)(hg3:Gr (Fp b (some bm) vs1) w2 w3)(hf3:∀c,Fp b (some bm) vs3 c->Fp b (some bm) vs1 c\/w2.heap.size<=c):
  ∃cs' F',qca w3 b t cs' o (now:Int) (setD du i (d:Int)) (cnt0+1) F'/\qb7 o cs cs'/\Gr F w w3/\(∀c,F' c->F c\/w.heap.size<=c):=by
 obtain⟨hwm,hrd,hwt,hsum,hso1,hg1,hf1⟩:=h
 have hwp:=q06 hwt i (by simp[delD]) om (by omega:(d:Int)<=1099511627776)
 rw[q5c] at hwp
 have hp:pk now d<448:=qug now d om hd.2
 have hss:=qnh 448 (pk now d) L1 (L1 (pk now d)++[i]) hp
 simp only[List.length_append,List.length_cons,List.length_nil] at hss
 have hw12:=hg2.size
 have hw1:=hg1.size
 have g2:Gr (fun c=>c=bm) w1 w2:=Gr.of_grown hg2 (fun c hc=>by cases hc;rfl)
 refine⟨cs3,Fp b (some bm) vs3,⟨some bm,_,vs3,_,hw3,hrd.put i d,hwp,fun j e he=>?_,by omega,hsz,by omega,fun c hc=>hc⟩,hso1.trans hso,?_,fun c hc=>?_⟩
 ·unfold setD at he
  split at he
  ·rename_i ej;rw[ej];exact hi
  ·exact hwf j e he
 ·refine(hg1.trans g2 (fun x hx=>?_)).trans hg3 (fun x hx=>hf1 x hx)
  rw[hx];exact hf1 bm (.inr (.inl rfl))
 ·rcases hf3 c hc with h1|h1
  ·exact hf1 c h1
  ·exact .inr om
theorem qjk{w w1:World}{b:Nat}{t:TypeId}{cs:Array Value}{o:Nat}{now:Nat}{du:Int->Option Int}{cnt0:Nat}{F:Nat->Prop}{i:Int}{cs1:Array Value}{bm:Nat}{D:DataW Unit}{vs1:Nat->Value}{L1:Nat->List Int}(h:ArmR w w1 b t cs o now du cnt0 F i cs1 bm D vs1 L1)(hc:cnt0<400)(hs:Maps.size D<=cnt0+1):
  (∃n,MapI w1 bm n D)/\MapI w1 bm (Maps.size D) D/\Maps.size D<=400/\(∀m,(L1 m).length<=1000000000):=by
 obtain⟨hwm,hrd,hwt,hsum,hso1,hg1,hf1⟩:=h
 obtain⟨n,_,hm⟩:=hwm.theMap
 refine⟨⟨n,hm⟩,qarb hm,by omega,fun m=>?_⟩
 by_cases hm:m<448
 ·have:=qr8 448 m L1 hm;omega
 ·rw[qor hwt m om];simp
theorem sZxw41{p:Prop}(h:p:=by
 refine RD (fun W=>W.cell? ⟨b,o,none⟩=some (.int .i64 (now:Int))/\W.cell? ⟨b,o+1,none⟩=some (.map (some bm))) ⟨c0,c1⟩ (fun _=>?_)
 refine tq 0 (.pointer (some ⟨b,o,none⟩)) rfl ⟨c0,c1⟩ (tq 1 (.pointer (some ⟨b,o,none⟩)) rfl ⟨c0,c1⟩ (tq 2 (.pointer (some ⟨b,o+1,none⟩)) rfl ⟨c0,c1⟩ ?_))
 simp only[ZZ]
 refine tk 3 (.map (some bm)) rfl (Or.inl ⟨by kernel_rfl,by intro w hS;have hc:=hS.2;go_simp⟩) ⟨c0,c1⟩ (tq 4 (.int .i64 i) rfl ⟨c0,c1⟩ (tq 5 (.int .i64 due) rfl ⟨c0,c1⟩ ?_))
 simp only[ZZ]
 refine tq 6 (.pointer (some ⟨b,o,none⟩)) rfl ⟨c0,c1⟩ (tq 7 (.pointer (some ⟨b,o,none⟩)) rfl ⟨c0,c1⟩ (tq 8 (.pointer (some ⟨b,o,none⟩)) rfl ⟨c0,c1⟩ ?_))
 simp only[ZZ]
 refine tk 9 (.int .i64 (now:Int)) rfl (Or.inl ⟨by kernel_rfl,by intro w hS;have hc:=hS.1;go_simp⟩) ⟨c0,c1⟩ (tk 10 (.int .i64 (max due (now:Int))) rfl (qnp (.tmp 51) (.tmp 55) _ rfl kr _ _ kr kr) ⟨c0,c1⟩ ?_)
 simp only[ZZ]
 refine AR [11] ?_
 refine AC (fun K hK=>?_) ?_
 ·rw[if_pos kr]
  refine qd3 _ _ _ _ 85 rfl 3 3 lawI underlying85 (plainElem prog 3) bm (Maps.size D) D rfl hm1 (by unfold maxLen;have:=HC.out;omega) _ _ _ rfl rfl hkey _ [] (plainElem_int underlying3 hwm) ?_;intro w2 hm2 hg2;replace hg2:=qf7 hg2;have hW2:=hW.setMap hg2 (by have:=HC.out;omega) hm2;replace c0:=(hW2.cell o).trans hW2.c0;replace c1:=(hW2.cell (o+1)).trans hW2.c1
  refine hK.out _ _ ⟨c0,c1⟩ (fun _=>?_)
  clear hK K
  try simp only[ZZ]
  refine AN ?_
  rw[HMX.out] at hW2 hm2
  go_wp2_with (first|(go_at_call 184;refine(ql3 hW2 i d hi HAT.out hn HD.out.2 (HLL.out _)).mono ?_;rintro e w3 ⟨rfl,cs3,vs3,hw3,hso3,hg3,hf3⟩))
  go_ret
  have q:=HR.out.fin d HD.out hi hwf HC0.out HSZ.out hg2 hw3 hso3 hg3 hf3
  first|exact⟨rfl,q⟩|(rw[hbm] at q;exact⟨rfl,q⟩)|(rw[HCN.out] at q;exact⟨rfl,q⟩)
 exact AZ):p:=h
theorem q90{w:World}{b o:Nat}{t:TypeId}{cs:Array Value}{now0:Int}{du:Int->Option Int}{cnt:Nat}{F:Nat->Prop}(h:qca w b t cs o now0 du cnt F)(i due:Int)(hi:(Lit.int .i64 i).wf=true)(h0:0<=due)(h1:due<=1099511627776)(hroom:du i=none->cnt<400):
  Calls prog 162 #[.pointer (some ⟨b,o,none⟩),.int .i64 i,.int .i64 due] w fun e w'=>e=.returned (.int .i64 0)/\∃cs' F',qca w' b t cs' o now0 (setD du i (max due now0)) (if (du i).isSome then cnt else cnt+1) F'/\qb7 o cs cs'/\Gr F w w'/\(∀c,F' c->F c\/w.heap.size<=c):=by
 obtain⟨mb,D,vs,L,hW0,hrd,hwt,hwf,hsum,hsize,hcnt,hF⟩:=h
 have htm:=hwt.time
 obtain⟨now,rfl⟩:∃now:Nat,now0=now:=⟨now0.toNat,by omega⟩
 have hn:now<=1099511627776:=by omega
 have hkey:=keyOf_int_mk (P:=prog) (q:=.i64) (a:=i) underlying3 hi
 have CI:=fun w=>qrq due w om
 obtain⟨d,hd⟩:∃d:Nat,max due (now:Int)=d:=⟨(max due (now:Int)).toNat,by omega⟩
 have HD:Hid (now<=d/\d<=1099511627776):=hid om
 have HMX:Hid (max due (now:Int)=(d:Int)):=hd
 have hwm:(Lit.int .i64 (max due (now:Int))).wf=true:=WalkArith.wf_i64 om
 have HAT:Hid (atW' (D.put (kI i) (.lit (.int .i64 (d:Int)))) i (d:Int)):=by
  have:=(hrd.put i d).time i
  exact hid (by simpa[dz,setD] using this)
 have HSP:Hid (Maps.size (D.put (kI i) (.lit (.int .i64 (d:Int))))=if Maps.has D (kI i) then Maps.size D else Maps.size D+1):=size_put hrd.tidy _
 rw[hd]
 clear hd
 rcases hdi:du i with _|e0
 ·have hhas:Maps.has D (kI i)=false:=by rw[hrd.has,hdi];rfl
  have HSZ:Hid (Maps.size (D.put (kI i) (.lit (.int .i64 (d:Int))))=cnt+1):=by have:=HSP.out;rw[hhas] at this;rw[this,hsize];rfl
  have hlt:=hroom hdi
  have hwd:delD du i=du:=by funext j;unfold delD;split;(rename_i ej;rw[ej,hdi]);rfl
  rcases mb with _|bm
  ·obtain⟨hW,hso1,hg1,hf1⟩:=hW0.newMap
   have HR:Hid (ArmR w _ b t cs o now du cnt F i _ w.heap.size D vs L):=⟨hW,hrd,by rw[hwd];exact hwt,hsum,hso1,hg1.mono hF,fun c hc=>(hf1 c hc).imp (hF c) id⟩
   obtain⟨_,hm1,hs4,hll⟩:=qjk HR.out hlt om
   have HC:Hid (Maps.size D<=400):=hs4
   have HC0:Hid (cnt<400):=hlt
   have HLL:Hid (∀m,(L m).length<=1000000000):=hll
   have hlook:=look_nil (w:=w) true lawI underlying85 (qjv _) hkey
   have hlen:=len_nil (P:=prog) (w:=w) underlying85 3
   have hmm:=@run_makeMap prog
   have hnn:∀w:World,(binOp .eql 85 (.map none) (.map none)).run prog w=.ok (.bool true) w:=fun _=>by kernel_rfl
   have k1:w.cell? ⟨b,o+1,none⟩=some (.map none):=(hW0.cell _).trans hW0.c1
   have k1':(w.alloc (.map #[] 0)).cell? ⟨b,o+1,none⟩=some (.map none):=qkw k1 _
   have k2':(w.alloc (.map #[] 0)).frozen? ⟨b,o+1,none⟩=false:=(hW0.alloc (.map #[] 0)).free _
   have c0:=(hW.cell o).trans hW.c0
   have c1:=(hW.cell (o+1)).trans hW.c1
   clear hW0 hwt htm hsum hsize hcnt hF hlt hll hs4 hso1 hg1 hf1 hrd hroom h0 h1
   generalize hbm:w.heap.size=bm at *
   go_enter func162,ntmps162
   go_wp2_with (first|(go_at_call 144;refine(CI _).mono ?_;rintro e w' ⟨rfl,hw⟩;rw[hw];clear hw w'))
   exact sZxw41
  ·have hW:=hW0
   have HR:Hid (ArmR w w b t cs o now du cnt F i cs bm D vs L):=⟨hW,hrd,by rw[hwd];exact hwt,hsum,qb7.refl _ _,Gr.refl _ _,fun c hc=>.inl (hF c hc)⟩
   obtain⟨⟨n,hm⟩,hm1,hs4,hll⟩:=qjk HR.out hlt om
   have HC:Hid (Maps.size D<=400):=hs4
   have HC0:Hid (cnt<400):=hlt
   have HLL:Hid (∀m,(L m).length<=1000000000):=hll
   have hnn:∀w:World,(binOp .eql 85 (.map (some bm)) (.map none)).run prog w=.ok (.bool false) w:=fun _=>by kernel_rfl
   have hge:¬(400:Int)<=(Maps.size D:Int):=by omega
   have hlen:=hm.len underlying85 3
   have c0:=(hW.cell o).trans hW.c0
   have c1:=(hW.cell (o+1)).trans hW.c1
   clear hW0 hwt htm hsum hsize hcnt hF hlt hll hs4 hrd hroom h0 h1
   go_enter func162,ntmps162
   go_wp2_with (first|(at_lookup;refine wpList_lookup_own_ok_int _ rfl _ _ 85 rfl 3 3 .i64 lawI underlying85 underlying3 (qjv _) bm n D rfl hm _ _ rfl hkey ?_;intro cv hat hwc;clear hat hwc)|(go_at_call 144;refine(CI _).mono ?_;rintro e w' ⟨rfl,hw⟩;rw[hw];clear hw w'))
   exact sZxw41
 ·have hhas:Maps.has D (kI i)=true:=by rw[hrd.has,hdi];rfl
  obtain⟨he1,he2⟩:=hwt.due i e0 hdi
  obtain⟨e,rfl⟩:∃e:Nat,e0=e:=⟨e0.toNat,by omega⟩
  have hmem:i∈L (pk now e):=(hwt.mem _ i).2 ⟨e,hdi,by simp⟩
  have hpk:pk now e<448:=qug now e hn om
  have hle:=qr8 448 _ L hpk
  have hlp:=List.length_pos_of_mem hmem
  rcases mb with _|bm
  ·exfalso
   rcases hW0.map with⟨_,hD⟩|⟨_,_,e2,_⟩
   ·rw[hD] at hhas;simp[Maps.has] at hhas
   ·cases e2
  have hat0:atW' D i (e:Int):=by have:=hrd.time i;unfold dz at this;rw[hdi] at this;exact this
  have CT:=qwr hW0 i e hi hat0 hn om hmem om
  have hse:=qnh 448 _ L ((L (pk now e)).eraseIdx ((L (pk now e)).idxOf i)) hpk
  rw[List.length_eraseIdx,if_pos (List.idxOf_lt_length_of_mem hmem)] at hse
  have hwd:=q2t hwt i hdi
  simp only[Int.toNat_natCast] at hwd
  have HRX:Hid (∀w1 cs1 vs1,WM w1 b t cs1 o (now:Int) (some bm) D vs1 (setL L (pk now e) ((L (pk now e)).eraseIdx ((L (pk now e)).idxOf i)))->qb7 o cs cs1->Gr (Fp b (some bm) vs) w w1->(∀c,Fp b (some bm) vs1 c->Fp b (some bm) vs c\/w.heap.size<=c)->ArmR w w1 b t cs o now du (cnt-1) F i cs1 bm D vs1 (setL L (pk now e) ((L (pk now e)).eraseIdx ((L (pk now e)).idxOf i)))):=hid fun w1 cs1 vs1 x1 x2 x3 x4=>⟨x1,hrd,hwd,by omega,x2,x3.mono hF,fun c hc=>(x4 c hc).imp (hF c) id⟩
  have HSZ:Hid (Maps.size (D.put (kI i) (.lit (.int .i64 (d:Int))))=cnt-1+1):=by have:=HSP.out;rw[hhas] at this;exact hid (by rw[this,hsize];simp only[if_true];omega)
  have HC0:Hid (cnt-1<400):=hid om
  have HCN:Hid (cnt-1+1=cnt):=hid om
  have HS1:Hid (Maps.size D<=cnt-1+1):=hid om
  obtain⟨n,_,hm⟩:=hW0.theMap
  have hnn:∀w:World,(binOp .eql 85 (.map (some bm)) (.map none)).run prog w=.ok (.bool false) w:=fun _=>by kernel_rfl
  have k0:=(hW0.cell o).trans hW0.c0
  have k1:=(hW0.cell (o+1)).trans hW0.c1
  clear hW0 hwt htm hsum hsize hcnt hF hrd hroom h0 h1 hwd hse hle hlp hmem hpk he1 he2 hdi hat0
  generalize setL L (pk now e) ((L (pk now e)).eraseIdx ((L (pk now e)).idxOf i))=L1 at *
  go_enter func162,ntmps162
  go_wp2_with (first|(at_lookup;refine wpList_lookup_own_ok_int _ rfl _ _ 85 rfl 3 3 .i64 lawI underlying85 underlying3 (qjv _) bm n D rfl hm _ _ rfl hkey ?_;intro cv hat hwc;clear hat hwc)|(go_at_call 144;refine(CI _).mono ?_;rintro e w' ⟨rfl,hw⟩;rw[hw];clear hw w')|(go_at_call 183;refine CT.mono ?_;rintro e1 w1 ⟨rfl,cs1,vs1,hW,hso1,hg1,hf1⟩;have HR:Hid (ArmR w w1 b t cs o now du (cnt-1) F i cs1 bm D vs1 L1):=HRX.out w1 cs1 vs1 hW hso1 hg1 hf1;obtain⟨_,hm1,hs4,hll⟩:=qjk HR.out HC0.out HS1.out;have HC:Hid (Maps.size D<=400):=hs4;have HLL:Hid (∀m,(L1 m).length<=1000000000):=hll;have c0:=(hW.cell o).trans hW.c0;have c1:=(hW.cell (o+1)).trans hW.c1;clear hs4 hll))
  exact sZxw41
section
variable {w:World} {b o:Nat} {t:TypeId} {cs:Array Value} {now:Int} {du:Int->Option Int} {cnt:Nat} {F:Nat->Prop}
theorem qca.keep{w':World}{G:Nat->Prop}(h:qca w b t cs o now du cnt F)(hg:Gr G w w')(hG:∀c,F c->¬G c):qca w' b t cs o now du cnt F:=by
 obtain⟨mb,D,vs,L,hW,h2,h3,h4,h5,h6,h7,hF⟩:=h
 exact⟨mb,D,vs,L,hW.keep hg (fun c hc=>hG c (hF c hc)),h2,h3,h4,h5,h6,h7,hF⟩
theorem qca.below{w':World}(h:qca w b t cs o now du cnt F)(hb:Below w.heap.size w w'):qca w' b t cs o now du cnt F:=h.keep (Gr.of_below (F:=fun _=>False) hb) (fun _ _=>id)
theorem qca.mono{G:Nat->Prop}(h:qca w b t cs o now du cnt F)(hG:∀c,F c->G c):qca w b t cs o now du cnt G:=by
 obtain⟨mb,D,vs,L,hW,h2,h3,h4,h5,h6,h7,hF⟩:=h
 exact⟨mb,D,vs,L,hW,h2,h3,h4,h5,h6,h7,fun c hc=>hG c (hF c hc)⟩
theorem qca.time(h:qca w b t cs o now du cnt F):0<=now/\now<=1099511627776:=by obtain⟨_,_,_,_,_,_,h3,_⟩:=h;exact h3.time
theorem qca.due(h:qca w b t cs o now du cnt F){i d:Int}(hd:du i=some d):now<=d/\d<=1099511627776:=by obtain⟨_,_,_,_,_,_,h3,_⟩:=h;exact h3.due i d hd
theorem qca.wf(h:qca w b t cs o now du cnt F){i d:Int}(hd:du i=some d):(Lit.int .i64 i).wf=true:=by obtain⟨_,_,_,_,_,_,_,h4,_⟩:=h;exact h4 i d hd
theorem qca.many(h:qca w b t cs o now du cnt F):cnt<=400:=by obtain⟨_,_,_,_,_,_,_,_,_,_,h7,_⟩:=h;exact h7
theorem qca.row(h:qca w b t cs o now du cnt F):w.heap[b]?=some (.cells cs t (0,0)):=by obtain⟨_,_,_,_,h1,_⟩:=h;exact h1.row
theorem qca.own(h:qca w b t cs o now du cnt F):F b:=by obtain⟨_,_,_,_,_,_,_,_,_,_,_,hF⟩:=h;exact hF b (.inl rfl)
theorem q7r(h:qca w b t cs o now du cnt F):Calls prog 57 #[.pointer (some ⟨b,o,none⟩)] w fun e w'=>e=.returned (.int .i64 now)/\w'=w:=by
 obtain⟨mb,D,vs,L,hW,_⟩:=h
 have c0:=(hW.cell o).trans hW.c0
 go_enter func57,ntmps57
 go_wp2
 go_ret
 exact⟨rfl,rfl⟩
end
end Go.Proofs.YtnicenfgemkdnaaGreatDoor
