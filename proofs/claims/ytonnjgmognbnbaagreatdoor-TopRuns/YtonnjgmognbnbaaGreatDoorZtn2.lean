/-
  Of what a law stands on.
-/
import Derived.Test.YtonnjgmognbnbaaGreatDoorZtn1
set_option linter.unusedSimpArgs false
set_option linter.unusedVariables false
namespace Go.Proofs.YtonnjgmognbnbaaGreatDoor
open Go.Value renaming int → I,pointer → V
open Go.IntKind renaming i64 → Z
open _root_.Go.Proofs.Tryz Go.ChangeShapes Go.WideShapes Go.ChangeAt Go.RowKit Go.Maps
set_option maxHeartbeats 16000000
set_option maxRecDepth 100000
variable {ops:Array Oper}{rest:List Oper}{o:Oper}{a:Act}{W w w':World}{Q:Exit->Act->World->Prop}{t:TypeId}{b b3 bm c cnt n:Nat}{cs:Array Value}{i:Int}{k k':Fl}{F Fw:Nat->Prop}{ov v:Value}{D:DataW Unit}{s:Nt}{tm:Int->Option Int}{is:List Int}{p:Prop}{fm:Option Nat}{K:Act->World->Prop}{fs gs:List (Nat×Fl)}{x:Nat×Fl}
theorem qse(R:Row t w b cs)(hgd:o.guard=none)(x y:Operand)(ho:o.op=.store 85 x y)(f:Nat)(hx:a.eval x=V (some ⟨b,f,none⟩))(p:Option Nat)(hy:a.eval y=.map p)(old:Value)(hc:cs[f]?=some old)(hr:∀w',Row t w' b (cs.setIfInBounds f (.map p))->qbl b w w'->wpList prog ops Q rest (a.put o.dst undef) w'):wpList prog ops Q (o::rest) a w:=
 wpList_plain hgd fun K hK=>by
  refine m6s ?_;intro hcell hfr
  unfold Oper.wp execOp
  simp only[ho,hx,hy]
  simp[go_sem,hcell,hfr,underlying85]
  exact hK _ _ (hr _ R.set (qfx _ _ _ _))
theorem qz0(t:TypeId)(hgd:o.guard=none)(ho:o.op=.makeMap t none)(hr:∀b w',w.heap.size<=b->Below w.heap.size w w'->w'.ownsMap prog 3 qc9 b 0 (.map [])->wpList prog ops Q rest (a.put o.dst (.map (some b))) w'):wpList prog ops Q (o::rest) a w:=
 wpList_plain hgd fun K hK=>by
  have hm:=@run_makeMap prog t w
  unfold Oper.wp execOp
  simp only[ho,Option.map_none,Sem.run_bind,hm,Result.andThen_ok,Sem.run_pure]
  exact hK _ _ (hr _ _ (Nat.le_refl _) ((Below.refl _ _).alloc (Nat.le_refl _) _) (World.ownsMap_made (H:=Unit) w prog 3 qc9))
section
variable {w w':World} {b:Nat} {cs cs':Array Value} {v ov:Value} {fm:Option Nat} {D:DataW Unit} {Fw:Nat->Prop} {cnt:Nat} {s:Nt} {tm:Int->Option Int} {is:List Int}
theorem NatM.mapNew(h:NatM w b cs v ov none D Fw cnt s tm is)(hbm:¬Fw bm)(R:Row 93 w' b (cs.setIfInBounds 34 (.map (some bm))))(T:qbl b w w')(hm:MapF w' bm (.map [])):NatM w' b (cs.setIfInBounds 34 (.map (some bm))) v ov (some bm) D Fw cnt s tm is:=by
 (have hD:D=.map []:=by rcases h.flows with⟨_,e⟩|⟨_,e,_⟩;exact e;cases e)
 refine⟨h.wheel.turn R zm (fun i h1 h2=>qce _ _ _ _ om) T.other,by simpa using h.size,(qce _ _ _ _ om).trans h.c0,(qce _ _ _ _ om).trans h.c1,(qce _ _ _ _ om).trans h.c2,(qce _ _ _ _ om).trans h.c3,fun k hk=>(qce _ _ _ _ om).trans (h.ct k hk),qm1 _ _ _ (by rw[h.size];omega),(qce _ _ _ _ om).trans h.c35,(qce _ _ _ _ om).trans h.c36,qc4 h.maps (fun h0=>T.other _ (h.msb h0)),h.nil,qfc h.ids (fun c hc=>T.other c (fun e=>h.ovb (e▸hc))),.inr ⟨bm,rfl,hD▸hm⟩,h.reads,h.sized,h.few,fun c hc=>by cases hc;exact hbm,h.ovNot,h.msNot,h.up,h.num,h.bg⟩
theorem NatM.mapPut{fs':List (Nat×Fl)}(h:NatM w b cs v ov (some bm) D Fw cnt s tm is)(hm:w'.ownsMap prog 3 qc9 bm n (D.put (kI (i:Int)) (fd Unit k)))(hg:w.grownBy w' (some bm))(hfs:fsF fs'=qh4 (fsF s.fs) i k)(hl:fs'.length=if (fsF s.fs i).isSome then s.fs.length else s.fs.length+1)(hup:fs'.Pairwise (fun x y=>x.1<y.1))(hnum:∀x∈fs',x.1<=s.began):NatM w' b cs v ov (some bm) (D.put (kI i) (fd Unit k)) Fw cnt { s with fs:=fs' } tm is:=by
 have G:Gr (fun c=>c=bm) w w':=Gr.of_grown hg (fun c hc=>by cases hc;rfl)
 refine⟨h.wheel.keep G (fun c hc e=>h.fmNot bm rfl (e▸hc)),h.size,h.c0,h.c1,h.c2,h.c3,h.ct,h.c34,h.c35,h.c36,qc4 h.maps (fun h0=>G.block _ (h.maps.lt h0) (h.fmms rfl h0)),h.nil,qfc h.ids (fun c hc=>?_),.inr ⟨bm,rfl,qwf hm⟩,?_,?_,?_,h.fmNot,h.ovNot,h.msNot,hup,hnum,h.bg⟩
 ·obtain⟨cur,m,hh⟩:=qe6 h.ids hc
  exact G.block c (Array.getElem?_eq_some_iff.1 hh).1 (fun e=>h.fmov rfl (e▸hc))
 ·show qgy _ (fsF fs')
  rw[hfs];exact h.reads.put i k
 ·show Maps.size _=fs'.length
  rw[size_put h.reads.tidy,h.reads.has,h.sized,hl]
 ·show cnt<=fs'.length
  have:=h.few
  rw[hl];split<;>omega
theorem NatM.wheelSet{tm':Int->Option Int}{cnt':Nat}{Fw':Nat->Prop}{now':Int}(h:NatM w b cs v ov fm D Fw cnt s tm is)(hW:qca w' b 93 cs' 37 now' tm' cnt' Fw')(hs:qb7 37 cs cs')(hg:Gr Fw w w')(hF:∀c,Fw' c->Fw c\/w.heap.size<=c)(hc:cnt'<=s.fs.length):NatM w' b cs' v ov fm D Fw' cnt' { s with now:=now' } tm' is:=by
 (have e:∀i,i<37->cs'[i]?=cs[i]?:=fun i hi=>hs.2 i (.inl hi));(have nt:∀c,c<w.heap.size->¬Fw c->¬Fw' c:=fun c h1 h2 h3=>by rcases hF c h3 with h4|h4;exact h2 h4;omega)
 refine⟨hW,hs.1.trans h.size,(e 0 om).trans h.c0,(e 1 om).trans h.c1,(e 2 om).trans h.c2,(e 3 om).trans h.c3,fun k hk=>(e (4+k) om).trans (h.ct k hk),(e 34 om).trans h.c34,(e 35 om).trans h.c35,(e 36 om).trans h.c36,qc4 h.maps (fun h0=>hg.block _ (h.maps.lt h0) (h.msNot h0).1),h.nil,qfc h.ids (fun c hc=>?_),?_,h.reads,h.sized,hc,fun c hc=>?_,fun c hc=>?_,fun h0=>⟨nt _ (h.maps.lt h0) (h.msNot h0).1,(h.msNot h0).2⟩,h.up,h.num,h.bg⟩
 ·obtain⟨cur,m,hh⟩:=qe6 h.ids hc
  exact hg.block c (Array.getElem?_eq_some_iff.1 hh).1 (h.ovNot c hc)
 ·rcases h.flows with h0|⟨bm,h1,h2⟩
  ·exact .inl h0
  ·exact .inr ⟨bm,h1,qdy h2 (hg.block bm h2.lt (h.fmNot bm h1))⟩
 ·rcases h.flows with⟨h0,_⟩|⟨bm,h1,h2⟩
  ·rw[h0] at hc;cases hc
  ·rw[h1] at hc;cases hc;exact nt _ h2.lt (h.fmNot _ h1)
 ·obtain⟨cur,m,hh⟩:=qe6 h.ids hc
  exact nt c (Array.getElem?_eq_some_iff.1 hh).1 (h.ovNot c hc)
end
theorem qix{r:Option Nat}(h:w.drew.grownBy w' r):w.grownBy w' r:=⟨h.os,h.tape,h.output,h.size,h.block⟩
theorem qgn(h:Gr F w.drew w'):Gr F w w':=⟨h.os,h.tape,h.output,h.size,h.block⟩
theorem NatM.theFlows(M:NatM w b cs v ov (some bm) D Fw cnt s tm is):∃n,n<=1000/\w.ownsMap prog 3 qc9 bm n D:=by
 rcases M.flows with⟨h,_⟩|⟨c,h,hm⟩
 ·cases h
 ·cases h
  exact⟨_,by rw[M.sized];have:=qkd M;omega,hm⟩
theorem qzi(w:World):(binOp .eql 85 (.map none) (.map none)).run prog w=.ok (.bool true) w:=by kernel_rfl
theorem qwt(bm:Nat)(w:World):(binOp .eql 85 (.map (some bm)) (.map none)).run prog w=.ok (.bool false) w:=by kernel_rfl
theorem qcq(T:qbl b w w'):Gr (fun x=>x=b) w w':=by
 have hB:Below b w w':=T.below b w (Nat.le_refl _) (Below.refl _ _)
 exact⟨hB.os,hB.tape,hB.output,hB.size,fun x hx hn=>T.other x hn⟩
theorem sZtn22(h:p:=by
 have kS:_/\_:=⟨(M.cell 34).trans M.c34,B5⟩
 refine RD (fun W=>W.cell? ⟨b,34,none⟩=some (.map (some bm))/\Row 52 W b5 (fc k)) kS (fun _=>?_)
 refine m3j ?_
 refine tk 3 (.map (some bm)) rfl (Or.inl ⟨by kernel_rfl,by intro w hS;have hc:=hS.1;go_simp⟩) kS (tq 4 (.int .i64 ((n:Nat):Int)) rfl kS (tk 5 (.agg (fc k)) rfl (yx 52 (.tmp 5) (fc k) (fun _ h=>h.2)) kS ?_))
 refine m5i ?_;refine AR [6] ?_
 refine AP (fun K hK=>?_) ?_
 ·obtain⟨nm,hnm,hMF⟩:=M.theFlows;(first|refine qd3 _ (.tmp 18) (.tmp 19) (.tmp 20) 85 rfl 3 52 lawI underlying85 qc9 bm nm D kr hMF (by unfold maxLen;omega) (.int .i64 ((n:Nat):Int)) (.agg (fc k)) (kI ((n:Nat):Int)) kr kr hkey (fd Unit k) [] (qgm k) ?_|refine qd3 _ (.tmp 18) (.tmp 19) (.tmp 20) 85 rfl 3 52 lawI underlying85 qc9 bm nm D kr (qdy hMF rfl) (by unfold maxLen;omega) (.int .i64 ((n:Nat):Int)) (.agg (fc k)) (kI ((n:Nat):Int)) kr kr hkey (fd Unit k) [] (qgm k) ?_);intro w9 ho9 hg9;(first|replace hg9:=qix hg9|skip);replace B5:Row 52 w9 b5 (fc k):=(hg9.block b5 B5.lt (fun e=>HBM.out (Option.some.inj e))).trans B5;replace M:=M.mapPut ho9 hg9 HFS.out HLN.out HUP.out HNU.out;replace hG:=hG.trans (Gr.of_grown (F:=fun c=>c=bm) hg9 (fun c hc=>(Option.some.inj hc).symm)) HBW.out;clear hMF hnm ho9 hg9;replace kS:_/\_:=⟨(M.cell 34).trans M.c34,B5⟩
  refine hK.out _ _ kS (fun _=>?_)
  clear hK K;(try simp only[ZZ]);refine AN ?_;clear kS
  go_upto_region 4 with fail
  have kS:Row 52 _ b5 (fc k):=B5
  refine RD (fun W=>Row 52 W b5 (fc k)) kS (fun _=>?_)
  refine tq 0 (.pointer (some ⟨b,0,none⟩)) rfl kS (tq 1 (.pointer (some ⟨b,0,none⟩)) rfl kS (tq 2 (.pointer (some ⟨b,37,none⟩)) rfl kS ?_));refine m5i ?_;(refine tq 3 (.int .i64 ((n:Nat):Int)) rfl kS (tq 4 (.pointer (some ⟨b5,9,none⟩)) rfl kS (tk 5 (.int .i64 k.du) rfl (Or.inl ⟨by kernel_rfl,by intro w hS;have hc:=(hS.cell 9).trans (show(fc k)[9]?=some (.int .i64 k.du) from rfl);go_simp⟩) kS ?_)));refine m5i ?_;refine AR [6] ?_
  refine AC (fun K hK=>?_) AZ
  go_simp
  go_at_call 161;(first|refine(CA _ _ M.wheel).mono ?_|refine(CA _ _ (M.wheel.below (Below.refl _ _).drew)).mono ?_);rintro e w9 ⟨rfl,cs9,F9,hW9,hs9,hg9,hf9⟩;(first|replace hg9:=qgn hg9|skip);replace B5:Row 52 w9 b5 (fc k):=(hg9.block b5 B5.lt HB5.out).trans B5;replace kS:Row 52 _ b5 (fc k):=B5
  go_wp2_with fail
  refine hK.out _ _ kS (fun _=>?_)
  clear hK K;(try simp only[ZZ]);refine AN ?_;clear kS
  go_end0
  refine⟨rfl,cs9,some bm,_,F9,_,M.wheelSet hW9 hs9 hg9 hf9 HCN.out,HFM.out,fun c hc=>?_,?_⟩
  ·rcases hf9 c hc with h1|h1
   ·exact .inl h1
   ·exact .inr (Nat.le_trans hG.size h1)
  ·first|exact hG.trans hg9 (fun x hx=>.inl (.inl hx))|exact(hG.trans hg9 (fun x hx=>.inl (.inl hx))).drew
 exact AZ):p:=h
theorem qh8(M:NatM w b cs v ov fm D Fw cnt s tm is)(hbd:∀c,Fw c->c<w.heap.size)(n:Nat)(k:Fl)(hn:n<=700)(hd0:0<=k.du)(hd1:k.du<=1099511627776)(hroom:tm ((n:Nat):Int)=none->cnt<400)(fs':List (Nat×Fl))(hfs:fsF fs'=qh4 (fsF s.fs) ((n:Nat):Int) k)(hl:fs'.length=if (fsF s.fs ((n:Nat):Int)).isSome then s.fs.length else s.fs.length+1)(hup:fs'.Pairwise (fun x y=>x.1<y.1))(hnum:∀x∈fs',x.1<=s.began)(hcn:(if (tm ((n:Nat):Int)).isSome then cnt else cnt+1)<=fs'.length):
  Calls prog 124 #[.pointer (some ⟨b,0,none⟩),.int .i64 ((n:Nat):Int),.agg (fc k)] w fun e w'=>e=.returned (.tuple #[])/\∃cs' fm' D' Fw' cnt',NatM w' b cs' v ov fm' D' Fw' cnt' { s with fs:=fs' } (setD tm ((n:Nat):Int) (max k.du s.now)) is/\(∀c,fm'=some c->fm=some c\/w.heap.size<=c)/\(∀c,Fw' c->Fw c\/w.heap.size<=c)/\Gr (fun c=>Fw c\/fm=some c) w w':=by
 have hkey:=keyOf_int_mk (P:=prog) (q:=.i64) (a:=((n:Nat):Int)) underlying3 (qrh hn);have HFS:Hid _:=hidN hfs;have HLN:Hid _:=hidN hl;have HUP:Hid _:=hidN hup;have HNU:Hid _:=hidN hnum;have HCN:Hid _:=hidN hcn;(have CA:=fun W cs (hW:qca W b 93 cs 37 s.now tm cnt Fw)=>q90 hW ((n:Nat):Int) k.du (qrh hn) hd0 hd1 hroom);have HLT:Hid (∀c,Fw c->c<w.heap.size):=hbd;clear hfs hl hup hnum hcn hd0 hd1 hroom hn hbd
 cases fm with
 | none=>
  (have hG:=Gr.refl (fun c=>Fw c\/(none:Option Nat)=some c) w);(have hq:=fun w=>qzi w)
  go_enter func124,ntmps124
  go_upto_region 3 with(first|((with_reducible refine gB 52 2 ?_);refine bx 52 (.tmp 2) (fc k) ?_;intro b5 w9 l9 R9 h9;replace M:=M.below h9;refine m5y ?_;clear hG;intro hG;have B5:=R9;have HB5:Hid (¬Fw b5):=hidN (fun hf=>by have:=HLT.out b5 hf;omega);have HL5:Hid (w.heap.size<=b5):=l9;clear R9 h9;have c34:=(M.cell 34).trans M.c34)|((with_reducible refine qaa (.makeMap 85 none) rfl ?_);refine qz0 85 rfl rfl ?_;intro bm w9 l9 h9 hmk;have HBM:Hid (b5≠bm):=hidN (by have:=B5.lt;omega);have HMM:Hid (bm≠b):=hidN (by have:=M.lt;omega);have HBL:Hid (w.heap.size<=bm):=hidN (by have:=hG.size;omega);replace M:=M.below h9;replace B5:=B5.below h9;refine m5y ?_;clear hG;intro hG;clear h9 l9;clear c34;have c34:=(M.cell 34).trans M.c34)|((with_reducible refine gS 85 14 12 ?_);refine qse M.row rfl (.tmp 14) (.tmp 12) rfl 34 rfl (some bm) rfl _ M.c34 ?_;intro w9 R9 t9;replace B5:=t9.row B5 (fun e=>HB5.out (e▸M.inb));replace hG:=hG.trans (qcq t9) (fun x hx=>.inl (.inl (hx▸M.inb)));replace M:=M.mapNew (fun hf=>by have:=HLT.out bm hf;have:=HBL.out;omega) R9 t9 (qwf (qdy hmk (t9.other bm HMM.out)));have HBW:Hid (∀x,x=bm->(Fw x\/(none:Option Nat)=some x)\/w.heap.size<=x):=hidN (fun x hx=>.inr (hx▸HBL.out));have HFM:Hid (∀c,some bm=some c->(none:Option Nat)=some c\/w.heap.size<=c):=hidN (fun c hc=>.inr (Option.some.inj hc▸HBL.out));clear R9 t9 hmk c34 HMM))
  exact sZtn22
 | some bm=>
  have hG:=Gr.refl (fun c=>Fw c\/some bm=some c) w;(have hq:=fun w=>qwt bm w);(have HBW:Hid (∀x,x=bm->(Fw x\/some bm=some x)\/w.heap.size<=x):=hidN (fun x hx=>.inl (.inr (hx▸rfl))));have HFM:Hid (∀c,some bm=some c->some bm=some c\/w.heap.size<=c):=hidN (fun c hc=>.inl hc);(have hlm:bm<w.heap.size:=by rcases M.flows with⟨h,_⟩|⟨c,h,hm⟩;cases h;cases h;exact hm.lt);have HLM:Hid (bm<w.heap.size):=hlm;clear hlm
  go_enter func124,ntmps124
  go_upto_region 3 with(first|((with_reducible refine gB 52 2 ?_);refine bx 52 (.tmp 2) (fc k) ?_;intro b5 w9 l9 R9 h9;replace M:=M.below h9;refine m5y ?_;clear hG;intro hG;have B5:=R9;have HB5:Hid (¬Fw b5):=hidN (fun hf=>by have:=HLT.out b5 hf;omega);have HBM:Hid (b5≠bm):=hidN (by have:=HLM.out;omega);clear R9 h9;have c34:=(M.cell 34).trans M.c34))
  exact sZtn22
theorem qzz(n:Int)(w:World):(Instr.buildSlice 86 1 #[(0,I Z n)]).run prog w=.ok (.slice (some ⟨w.heap.size,0,none⟩) 1 1) (w.alloc (.cells #[I Z n] 3)):=by
 simp[go_sem,underlying86]
theorem qot(x:Operand)(ho:o.op=.buildSlice 86 1 #[(0,x)])(n:Int)(hx:a.eval x=I Z n)(hr:∀b w',w.heap.size<=b->Row 3 w' b #[I Z n]->Below w.heap.size w w'->K (a.put o.dst (.slice (some ⟨b,0,none⟩) 1 1)) w'):o.wp prog a w K Q:=by
 have h':=hr w.heap.size (w.alloc (.cells #[I Z n] 3)) (Nat.le_refl _) (Row.new _ w _) ((Below.refl _ _).alloc (Nat.le_refl _) _)
 unfold Oper.wp execOp
 simp only[ho,List.map_toArray,List.map_cons,List.map_nil,hx,Sem.run_bind,qzz,Result.andThen_ok,Sem.run_pure]
 exact h'
theorem q3k:(prog.info? 3).map (fun i=>(i.zero,i.size,i.bytes))=some (some (I Z 0),1,8):=by kernel_rfl
theorem qjs(s x:Operand)(ho:o.op=.call { callee:=.builtin .append,args:=#[s,x],argTypes:=#[86,86] }){l:List Int}{n:Int}(h:Own w v l)(R:Row 3 w c #[I Z n])(hs:a.eval s=v)(hx:a.eval x=.slice (some ⟨c,0,none⟩) 1 1)(hl:l.length<=1000000)(hr:∀v' w',Own w' v' (l++[n])->w.grownBy w' v.ownBlock->(v'.ownBlock=v.ownBlock\/v'.ownBlock=some w.heap.size)->K (a.put o.dst v') w'):o.wp prog a w K Q:=by
 obtain⟨i0,hi,hz0,hz1,hz2⟩:=info_parts q3k
 obtain⟨v',w',hrun,h2,h3,h4,h5⟩:=run_append_own_at (P:=prog) w 0 86 o.type 3 i0 (I Z 0) 1 8 underlying86 hi hz0 hz1 hz2 rfl (by decide) v l.length (l.map (Value.int .i64)) h ⟨c,0,none⟩ 1 1 [I Z n] rfl (by
  intro j u hj
  match j,hj with
  | 0,hj=>
   (have e:Value.int .i64 n=u:=by simpa using hj)
   subst e
   rw[Addr.add_lit,Nat.zero_add]
   exact(R.cell 0).trans rfl) (by intro u hu;simp at hu;subst hu;rfl) (by unfold maxLen;omega) om om
 unfold Oper.wp execOp
 simp only[ho,resolve,invoke,builtin,Sem.run_bind,Sem.run_pure,Result.andThen_ok,List.map_toArray,List.map_cons,List.map_nil,hs,hx,hrun]
 refine hr v' w' ?_ h3 h5
 (have e1:(l++[n]).length=l.length+1:=by simp);(have e2:(l++[n]).map (Value.int .i64)=l.map (Value.int .i64)++[I Z n]:=by simp)
 show w'.ownsRow 0 3 1 v' (l++[n]).length ((l++[n]).map (Value.int .i64))
 rw[e1,e2];exact h2
theorem qgb(R:Row t w b cs)(x y:Operand)(ho:o.op=.store 86 x y)(f:Nat)(hx:a.eval x=V (some ⟨b,f,none⟩))(v:Value)(sa:Option Addr)(n c:Nat)(hv:v=.slice sa n c)(hy:a.eval y=v)(m:Value)(hc:cs[f]?=some m)(hr:∀w',Row t w' b (cs.setIfInBounds f v)->qbl b w w'->K (a.put o.dst undef) w'):o.wp prog a w K Q:=by
 refine m6s ?_;intro hcell hfr
 subst hv
 unfold Oper.wp execOp
 simp only[ho,hx,hy]
 simp[go_sem,hcell,hfr,underlying86]
 exact hr _ R.set (qfx _ _ _ _)
theorem qr9(R:Row t w b cs)(hgd:o.guard=none)(x y:Operand)(ho:o.op=.store 86 x y)(f:Nat)(hx:a.eval x=V (some ⟨b,f,none⟩))(v:Value)(sa:Option Addr)(n c:Nat)(hv:v=.slice sa n c)(hy:a.eval y=v)(m:Value)(hc:cs[f]?=some m)(hr:∀w',Row t w' b (cs.setIfInBounds f v)->qbl b w w'->wpList prog ops Q rest (a.put o.dst undef) w'):wpList prog ops Q (o::rest) a w:=
 wpList_plain hgd fun K hK=>qgb R x y ho f hx v sa n c hv hy m hc (fun w' h1 h2=>hK _ _ (hr w' h1 h2))
theorem qly(x:Operand)(ho:o.op=.load 86 x)(b f:Nat)(hx:a.eval x=V (some ⟨b,f,none⟩))(v:Value)(hc:w.cell? ⟨b,f,none⟩=some v)(hr:K (a.put o.dst v) w):o.wp prog a w K Q:=by
 unfold Oper.wp execOp
 simp only[ho,hx]
 simp[go_sem,hc,underlying86]
 exact hr
section
variable {w w':World} {b:Nat} {cs cs':Array Value} {v ov:Value} {fm:Option Nat} {D:DataW Unit} {Fw:Nat->Prop} {cnt:Nat} {s:Nt} {tm:Int->Option Int} {is:List Int}
theorem NatM.order{w8:World}{ov':Value}{is':List Int}(h:NatM w b cs v ov fm D Fw cnt s tm is)(hbd:∀c,Fw c->c<w.heap.size)(hg:w.grownBy w8 ov.ownBlock)(ho:Own w8 ov' is')(hl:∀c,ov'.ownBlock=some c->ov.ownBlock=some c\/w.heap.size<=c)(R:Row 93 w' b (cs.setIfInBounds 35 ov'))(T:qbl b w8 w'):NatM w' b (cs.setIfInBounds 35 ov') v ov' fm D Fw cnt s tm is':=by
 have G:Gr (fun c=>ov.ownBlock=some c) w w8:=Gr.of_grown hg (fun c hc=>hc);have h8:=h.wheel.keep G (fun c hc e=>h.ovNot c e hc);have hb:b<w.heap.size:=h.lt;(have hob:ov'.ownBlock≠some b:=fun e=>by rcases hl b e with h1|h1;exact h.ovb h1;omega)
 refine⟨h8.turn R zm (fun i h1 h2=>qce _ _ _ _ om) T.other,by simpa using h.size,(qce _ _ _ _ om).trans h.c0,(qce _ _ _ _ om).trans h.c1,(qce _ _ _ _ om).trans h.c2,(qce _ _ _ _ om).trans h.c3,fun k hk=>(qce _ _ _ _ om).trans (h.ct k hk),(qce _ _ _ _ om).trans h.c34,qm1 _ _ _ (by rw[h.size];omega),(qce _ _ _ _ om).trans h.c36,qc4 h.maps (fun h0=>(T.other _ (h.msb h0)).trans (G.block _ (h.maps.lt h0) (h.msNot h0).2)),h.nil,qfc ho (fun c hc=>T.other c (fun e=>hob (e▸hc))),?_,h.reads,h.sized,h.few,h.fmNot,fun c hc=>?_,fun h0=>⟨(h.msNot h0).1,fun e=>?_⟩,h.up,h.num,h.bg⟩
 ·rcases h.flows with h0|⟨bm,h1,h2⟩
  ·exact .inl h0
  ·exact .inr ⟨bm,h1,qdy h2 ((T.other bm (fun e=>h.fmb (e▸h1))).trans (G.block bm h2.lt (h.fmov h1)))⟩
 ·rcases hl c hc with h1|h1
  ·exact h.ovNot c h1
  ·exact fun hf=>by have:=hbd c hf;omega
 ·rcases hl _ e with h1|h1
  ·exact(h.msNot h0).2 h1
  ·have:=h.maps.lt h0;omega
end
theorem sZtn24(h:p:=by
 rw[List.find?_append]
 by_cases e:i=(n:Int)
 ·subst e
  rw[if_pos rfl]
  have:fs.find? (fun x=>decide ((x.1:Int)=(n:Int)))=none:=by
   rw[List.find?_eq_none];intro x hx
   have:=h x hx
   simp;omega
  rw[this];simp
 ·rw[if_neg e];have e2:decide (((n:Nat):Int)=i)=false:=decide_eq_false (fun h=>e h.symm)
  cases hf:fs.find? (fun x=>decide ((x.1:Int)=i))<;>simp[e2,hf]):p:=h
theorem qqn(h:∀x∈fs,x.1<n):duF (fs++[(n,k)])=setD (duF fs) (n:Int) k.du:=by
 funext i
 unfold duF setD
 exact sZtn24
theorem qjq(h:∀x∈fs,x.1<n):fsF (fs++[(n,k)])=qh4 (fsF fs) (n:Int) k:=by
 funext i
 unfold fsF qh4
 exact sZtn24
theorem qlc(h:∀x∈fs,x.1<n):fs.find? (fun x=>decide ((x.1:Int)=(n:Int)))=none:=by
 rw[List.find?_eq_none];intro x hx
 have:=h x hx
 simp;omega
theorem quy(p s:Int):4<=qb0 p s/\qb0 p s<=60:=by unfold qb0;(repeat' split)<;>omega
theorem qw8{S:World->Prop}(x y:Operand)(ho:o.op=.binOp .add 3 x y 3)(hw:Region.wanted o (yielded ops a.tmps)=true)(m n d:Int)(hx:a.eval x=I Z m)(hy:a.eval y=I Z n)(hd:IntKind.i64.wrap (m+n)=d):YieldsIf prog ops S o (I Z d) a:=
 .inl ⟨hw,fun w _=>by unfold execOp;simp only[ho,hx,hy];simp[go_sem,Act.eval];exact hd⟩
theorem qap(h:qbl b w.drew w'):qbl b w w':=⟨h.size,h.other,fun B w0 hB hb=>h.below B w0 hB (qbv hb)⟩
theorem qaj(h:Below w.drew.heap.size w.drew w'):Below w.heap.size w w':=⟨h.os,h.tape,h.output,h.size,h.block⟩
theorem qg2(M:NatM w b cs v ov fm D Fw cnt s tm (s.fs.map fun x=>(x.1:Int))):qaw w b s tm (FpN Fw fm ov v s.ms):=⟨_,_,_,_,_,_,_,M,fun _ h=>h⟩
theorem NatM.bound(M:NatM w b cs v ov fm D Fw cnt s tm is):NatM w b cs v ov fm D (fun c=>Fw c/\c<w.heap.size) cnt s tm is:=
 ⟨M.wheel.bound,M.size,M.c0,M.c1,M.c2,M.c3,M.ct,M.c34,M.c35,M.c36,M.maps,M.nil,M.ids,M.flows,M.reads,M.sized,M.few,fun c hc hh=>M.fmNot c hc hh.1,fun c hc hh=>M.ovNot c hc hh.1,fun h0=>⟨fun hh=>(M.msNot h0).1 hh.1,(M.msNot h0).2⟩,M.up,M.num,M.bg⟩
theorem NatM.fpLt(M:NatM w b cs v ov fm D Fw cnt s tm is)(hbd:∀c,Fw c->c<w.heap.size)(hc:FpN Fw fm ov v s.ms c):c<w.heap.size:=by
 rcases hc with h1|h1|h1|⟨h1,rfl⟩
 ·exact hbd c h1
 ·rcases M.flows with⟨e,_⟩|⟨bm,e,hm⟩
  ·rw[e] at h1;cases h1
  ·rw[e] at h1;cases h1;exact hm.lt
 ·obtain⟨cur,m,hh⟩:=qe6 M.ids h1
  exact(Array.getElem?_eq_some_iff.1 hh).1
 ·exact M.maps.lt h1
theorem qil(x:Operand)(ho:o.op=.load 3 x)(b f:Nat)(hx:a.eval x=V (some ⟨b,f,none⟩))(n:Int)(hc:w.cell? ⟨b,f,none⟩=some (I Z n))(hr:K (a.put o.dst (I Z n)) w):o.wp prog a w K Q:=by
 unfold Oper.wp execOp
 simp only[ho,hx]
 simp[go_sem,hc,underlying3]
 exact hr
def RorN(W:World)(b3:Nat)(k k':Fl):Prop:=Row 52 W b3 (fc k)\/Row 52 W b3 (fc k')
theorem qapb(h:Row 52 W b3 (fc k)):RorN W b3 k k':=.inl h
theorem qawb(h:Row 52 W b3 (fc k')):RorN W b3 k k':=.inr h
theorem qlb{v':Value}{m:Nat}(h:v'.ownBlock=v.ownBlock\/v'.ownBlock=some n)(hm:m<=n):∀c,v'.ownBlock=some c->v.ownBlock=some c\/m<=c:=by
 intro c hc
 rcases h with h|h
 ·exact .inl (h▸hc)
 ·rw[h] at hc;cases hc;exact .inr hm
theorem qjh(hp:fs.Pairwise (fun x y=>x.1<y.1))(h:∀x∈fs,x.1<n):(fs++[(n,k)]).Pairwise (fun x y=>x.1<y.1):=by
 rw[List.pairwise_append]
 exact⟨hp,by simp,fun x hx y hy=>by obtain rfl:=List.mem_singleton.1 hy;exact h x hx⟩
theorem q8r{n l:Int}(h:4<=l):max (n+l) n=n+l:=by omega
theorem sZtn21(h:p:=by
 refine hK.out _ _ kS (fun _=>?_)
 clear hK K;(try simp only[ZZ]);refine AR [10] ?_
 refine AP (fun K hK=>?_) ?_
 ·(first|refine qjs (.tmp 25) (.tmp 30) rfl M.ids BQ kr kr HIL.out ?_|refine qjs (.tmp 25) (.tmp 30) rfl (M.below (Below.refl _ _).drew).ids (BQ.below (Below.refl _ _).drew) kr kr HIL.out ?_);intro v8 w8 ho8 hg8 hl8;(first|replace hg8:=qix hg8|skip);obtain⟨va,vc,hv8⟩:=qeh ho8
  refine hK.out _ _ kS (fun _=>?_)
  clear hK K;(try simp only[ZZ]);refine tq 11 (V (some ⟨b,0,none⟩)) rfl kS (tq 12 (V (some ⟨b,35,none⟩)) rfl kS ?_);refine m5i ?_;refine AR [13] ?_
  refine AP (fun K hK=>?_) AZ
  have hG0:=hG.size;have R8:=(hg8.block b M.lt (fun e=>M.ovb e.symm)).trans M.row;(first|refine qgb R8 (.tmp 33) (.tmp 31) rfl 35 kr v8 va _ vc hv8 kr _ M.c35 ?_|refine qgb (R8.below (Below.refl _ _).drew) (.tmp 33) (.tmp 31) rfl 35 kr v8 va _ vc hv8 kr _ M.c35 ?_);intro w9 R9 t9;(first|replace t9:=qap t9|skip);replace B3:=t9.row ((hg8.block b3 B3.lt (fun e=>HOB.out e.symm)).trans B3) HB3.out;replace hG:=(hG.trans (Gr.of_grown (F:=fun c=>(Value.slice oa on oc).ownBlock=some c) hg8 (fun c hc=>hc)) HFO.out).trans (qcq t9) HFB.out;have HV8:Hid (∀c,v8.ownBlock=some c->(Value.slice oa on oc).ownBlock=some c\/w.heap.size<=c):=hidN (qlb hl8 hG0);replace M:=M.order (fun c hc=>Nat.lt_of_lt_of_le (HBD.out c hc) hG0) hg8 ho8 (qlb hl8 (Nat.le_refl _)) R9 t9;clear hG0 R8 R9 t9 hg8 ho8 hl8 hv8
  refine hK.out _ _ kS (fun _=>?_)
  clear hK K;(try simp only[ZZ]);refine AN ?_;clear kS
  go_upto_region 4 with fail
  (have HNM:Hid (∀x∈s.fs++[(s.began+1,dueF s k)],x.1<=s.began+1):=hidN (fun x hx=>by rcases List.mem_append.1 hx with h1|h1;exact Nat.le_of_lt (HLT.out x h1);obtain rfl:=List.mem_singleton.1 h1;exact Nat.le_refl _));(have HLN:Hid ((s.fs++[(s.began+1,dueF s k)]).length=if (fsF s.fs ((s.began+1:Nat):Int)).isSome then s.fs.length else s.fs.length+1):=hidN (by rw[show fsF s.fs ((s.began+1:Nat):Int)=none from by unfold fsF;rw[qlc HLT.out];rfl];simp));(have HCC:Hid ((if (duF s.fs ((s.began+1:Nat):Int)).isSome then cnt else cnt+1)<=(s.fs++[(s.began+1,dueF s k)]).length):=hidN (by rw[show duF s.fs ((s.began+1:Nat):Int)=none from by unfold duF;rw[qlc HLT.out];rfl];have:=HCN.out;simp;omega));(have HN9:Hid (¬(Fw b3\/fm=some b3)):=hidN (fun h=>by rcases h with h|h;exact HNB.out b3 (.inl h) rfl;exact HNB.out b3 (.inr (.inl h)) rfl));(have HGF:Hid (∀x,(Fw x\/fm=some x)->F x\/w.heap.size<=x):=hidN (fun x hx=>.inl (by rcases hx with h|h;exact HFF.out x (.inl h);exact HFF.out x (.inr (.inl h)))))
  have HFE:Hid (∀(F9:Nat->Prop) (fm9:Option Nat) (c:Nat) {n:Nat},(∀c,fm9=some c->fm=some c\/n<=c)->(∀c,F9 c->Fw c\/n<=c)->w.heap.size<=n->FpN F9 fm9 v8 v s.ms c->F c\/w.heap.size<=c):=hidN (fun F9 fm9 c n h1 h2 h3 hc=>by
   rcases hc with hc|hc|hc|hc
   ·rcases h2 c hc with h|h;exact .inl (HFF.out c (.inl h));exact .inr (Nat.le_trans h3 h)
   ·rcases h1 c hc with h|h;exact .inl (HFF.out c (.inr (.inl h)));exact .inr (Nat.le_trans h3 h)
   ·rcases HV8.out c hc with h|h;exact .inl (HFF.out c (.inr (.inr (.inl h))));exact .inr h
   ·exact .inl (HFF.out c (.inr (.inr (.inr hc)))))
  have kS:_/\_:=⟨(M.cell 36).trans M.c36,B3⟩
  refine RD (fun W=>W.cell? ⟨b,36,none⟩=some (I Z ((s.began+1:Nat):Int))/\Row 52 W b3 (fc (dueF s k))) kS (fun _=>?_)
  refine m7j ?_;refine m5i ?_
  refine tq 3 (V (some ⟨b,36,none⟩)) rfl kS (tk 4 (I Z ((s.began+1:Nat):Int)) rfl (Or.inl ⟨by kernel_rfl,by intro w hS;have hc:=hS.1;go_simp⟩) kS (tk 5 (.agg (fc (dueF s k))) rfl (yx 52 (.tmp 3) (fc (dueF s k)) (fun _ h=>h.2)) kS ?_))
  refine m5i ?_;refine AR [6] ?_
  refine AC (fun K hK=>?_) AZ
  go_simp
  go_at_call 124;(first|refine(qh8 M (fun c hc=>Nat.lt_of_lt_of_le (HBD.out c hc) hG.size) (s.began+1) (dueF s k) HBG.out HMX.out.2.1 HMX.out.2.2 (fun _=>Nat.lt_of_le_of_lt HCN.out HLE.out) (s.fs++[(s.began+1,dueF s k)]) (qjq HLT.out) HLN.out (qjh HUP.out HLT.out) HNM.out HCC.out).mono ?_|refine(qh8 (M.below (Below.refl _ _).drew) (fun c hc=>Nat.lt_of_lt_of_le (HBD.out c hc) hG.size) (s.began+1) (dueF s k) HBG.out HMX.out.2.1 HMX.out.2.2 (fun _=>Nat.lt_of_le_of_lt HCN.out HLE.out) (s.fs++[(s.began+1,dueF s k)]) (qjq HLT.out) HLN.out (qjh HUP.out HLT.out) HNM.out HCC.out).mono ?_);rintro e w9 ⟨rfl,cs9,fm9,D9,F9,cnt9,M9,hfm9,hfw9,hg9⟩;(first|replace hg9:=qgn hg9|skip);replace B3:=(hg9.block b3 B3.lt HN9.out).trans B3;replace kS:_/\_:=⟨(M9.cell 36).trans M9.c36,B3⟩
  go_wp2_with fail
  refine hK.out _ _ kS (fun _=>?_)
  clear hK K;(try simp only[ZZ]);refine AN ?_;clear kS
  go_end0
  refine⟨rfl,FpN F9 fm9 v8 v s.ms,⟨cs9,v,v8,fm9,D9,F9,cnt9,?_,fun c hc=>hc⟩,?_,fun c hc=>?_⟩
  ·(have e1:duF (s.begin k).fs=setD (duF s.fs) ((s.began+1:Nat):Int) (max (dueF s k).du s.now):=by rw[show(dueF s k).du=s.now+qb0 k.pr k.st from rfl,HMX.out.1];exact qqn HLT.out);rw[e1];(have e2:(s.begin k).fs.map (fun x=>(x.1:Int))=s.fs.map (fun x=>(x.1:Int))++[((s.began+1:Nat):Int)]:=by simp[Nt.begin]);rw[e2]
   first|exact M9|exact M9.below (Below.refl _ _).drew
  ·have hgg:=hG.trans hg9 HGF.out
   first|exact hgg|exact hgg.drew
  ·exact HFE.out F9 fm9 c hfm9 hfw9 hG.size hc
 exact AZ):p:=h
theorem sZtn23(h:p:=by
 refine hK.out _ _ kS (fun _=>?_)
 clear hK K;(try simp only[ZZ]);refine AR [9] ?_
 refine AP (fun K hK=>?_) ?_
 ·refine qot (.tmp 29) rfl (((s.began+1):Nat):Int) kr ?_;intro bq w9 l9 R9 h9;(first|replace h9:=qaj h9|skip);(try replace l9:World.heap.size _<=bq:=l9);replace M:=M.below h9;replace B3:=B3.below h9;refine m5y ?_;intro hG;have BQ:=R9;clear R9 h9 l9
  exact sZtn21
 exact AZ):p:=h
theorem qlz(h:qaw w b s (duF s.fs) F)(k:Fl)(hlen:s.fs.length<400)(hbg:s.began<700)(hnow:0<=s.now/\s.now<=549755813888):Calls prog 132 #[V (some ⟨b,0,none⟩),.agg (fc k)] w fun e w'=>e=.returned (.tuple #[])/\∃F',qaw w' b (s.begin k) (duF (s.begin k).fs) F'/\Gr F w w'/\∀c,F' c->F c\/w.heap.size<=c:=by
 obtain⟨cs,v,ov,fm,D,Fw0,cnt,M0,hF0⟩:=h
 obtain⟨Fw,HFW⟩:∃Fw,Fw=fun c=>Fw0 c/\c<w.heap.size:=⟨_,rfl⟩
 (have M:NatM w b cs v ov fm D Fw cnt s (duF s.fs) (s.fs.map fun x=>(x.1:Int)):=HFW▸M0.bound);have HBD:Hid (∀c,Fw c->c<w.heap.size):=hidN (fun c hc=>by rw[HFW] at hc;exact hc.2);(have hF:∀c,FpN Fw fm ov v s.ms c->F c:=fun c hc=>hF0 c (by rw[HFW] at hc;rcases hc with h1|h1;exact .inl h1.1;exact .inr h1));clear HFW M0 hF0;obtain⟨oa,oc,hov⟩:=qeh M.ids
 obtain⟨on,hon⟩:∃on,on=(s.fs.map fun x=>(x.1:Int)).length:=⟨_,rfl⟩
 rw[←hon] at hov
 subst hov
 (have HIL:Hid ((s.fs.map fun x=>(x.1:Int)).length<=1000000):=hidN (by have:=qkd M;rw[List.length_map];omega));have hlf:=quy k.pr k.st;have HAW:Hid (IntKind.i64.wrap (s.now+qb0 k.pr k.st)=s.now+qb0 k.pr k.st):=hidN (by rw[IntKind.wrap_i64];omega);(have hbw:wrap64 ((s.began:Int)+1)=(s.began:Int)+1:=by unfold wrap64;omega);have HBG:Hid (s.began<700):=hbg;have HFP:Hid (∀c,FpN Fw fm (.slice oa on oc) v s.ms c->c<w.heap.size):=hidN (fun c hc=>M.fpLt HBD.out hc);have HFF:Hid (∀c,FpN Fw fm (.slice oa on oc) v s.ms c->F c):=hF;have HLE:Hid (s.fs.length<400):=hlen;(have HMX:Hid (max (s.now+qb0 k.pr k.st) s.now=s.now+qb0 k.pr k.st/\0<=s.now+qb0 k.pr k.st/\s.now+qb0 k.pr k.st<=1099511627776):=hidN ⟨q8r hlf.1,by omega,by omega⟩);(have hlt:∀x∈s.fs,x.1<s.began+1:=fun x hx=>Nat.lt_succ_of_le (M.num x hx));have HLT:Hid (∀x∈s.fs,x.1<s.began+1):=hlt;have HCN:Hid (cnt<=s.fs.length):=M.few;(have HFB:Hid (∀x,x=b->F x\/w.heap.size<=x):=hidN (fun x hx=>.inl (hx▸hF b (.inl M.inb))));(have HFO:Hid (∀x,(Value.slice oa on oc).ownBlock=some x->F x\/w.heap.size<=x):=hidN (fun x hx=>.inl (hF x (.inr (.inr (.inl hx))))));have hG:=Gr.refl F w;have HUP:Hid _:=hidN M.up;clear hF hlen hbg hnow hlf hlt hon
 go_enter func132,ntmps132
 go_upto_region 1 with(first|((with_reducible refine gB 52 1 ?_);refine bx 52 (.tmp 1) (fc k) ?_;intro b3 w9 l9 R9 h9;have HL3:Hid (w.heap.size<=b3):=hidN (Nat.le_trans hG.size l9);have HB3:Hid (b3≠b):=hidN (by have:=M.lt;omega);replace M:=M.below h9;refine m5y ?_;clear hG;intro hG;have B3:=R9;clear R9 h9 l9;have HNB:Hid (∀c,FpN Fw fm (.slice oa on oc) v s.ms c->¬c=b3):=hidN (fun c hc e=>by have:=HFP.out c hc;have:=HL3.out;omega);have HOB:Hid ((Value.slice oa on oc).ownBlock≠some b3):=hidN (fun e=>HNB.out b3 (.inr (.inr (.inl e))) rfl)))
 have kS:=qapb (k':=dueF s k) B3
 refine RD (fun W=>RorN W b3 k (dueF s k)) kS (fun _=>?_)
 refine tq 0 (V (some ⟨b,0,none⟩)) rfl kS (tq 2 (V (some ⟨b3,0,none⟩)) rfl kS (tq 3 (V (some ⟨b3,0,none⟩)) rfl kS ?_));refine m5i ?_;(refine tk 4 (I Z k.pr) rfl (Or.inl ⟨by kernel_rfl,by intro w hS;have hc:=(show _=some (Value.int .i64 k.pr) from by rcases hS with h|h;exact(h.cell 0).trans rfl;exact(h.cell 0).trans rfl);go_simp⟩) kS (tq 5 (V (some ⟨b3,7,none⟩)) rfl kS (tk 6 (I Z k.st) rfl (Or.inl ⟨by kernel_rfl,by intro w hS;have hc:=(show _=some (Value.int .i64 k.st) from by rcases hS with h|h;exact(h.cell 7).trans rfl;exact(h.cell 7).trans rfl);go_simp⟩) kS ?_)));refine m5i ?_;refine AR [1] ?_
 refine AC (fun K hK=>?_) AZ
 go_simp
 go_at_call 19;(first|refine(qda (qg2 M)).mono ?_|refine(qda (qg2 (M.below (Below.refl _ _).drew))).mono ?_);refine m6q ?_
 go_wp2_with fail
 refine hK.out _ _ kS (fun _=>?_)
 clear hK K;(try simp only[ZZ]);refine AR [7] ?_
 refine AC (fun K hK=>?_) AZ
 go_simp;go_at_call 163;refine(qvq k.pr k.st _).mono ?_;refine m6q ?_
 go_wp2_with fail
 refine hK.out _ _ kS (fun _=>?_)
 clear hK K;(try simp only[ZZ]);refine tk 8 (I Z (s.now+qb0 k.pr k.st)) rfl (qw8 (.tmp 5) (.tmp 11) rfl kr _ _ _ kr kr HAW.out) kS (tq 9 (V (some ⟨b3,9,none⟩)) rfl kS ?_);refine m5i ?_;refine AR [10] ?_
 refine AP (fun K hK=>?_) AZ
 refine qd4 B3 (.tmp 13) (.tmp 12) rfl 9 kr (s.now+qb0 k.pr k.st) kr _ rfl (fc (dueF s k)) rfl ?_;intro w9 R9 t9;(first|replace t9:=qap t9|skip);replace M:=M.keep (qcq t9) HNB.out;(replace hG:=hG.trans (qcq t9) (fun x hx=>.inr (hx▸HL3.out)));replace B3:=R9;clear R9 t9;replace kS:=qawb (k:=k) B3
 refine hK.out _ _ kS (fun _=>?_)
 clear hK K;(try simp only[ZZ]);refine AN ?_;clear kS
 go_upto_region 3 with(first|((with_reducible refine gL 3 16 ?_);refine qae M.row _ rfl kr 36 rfl (s.began:Int) M.c36 ?_)|((with_reducible refine gS 3 20 18 ?_);refine qbb M.row rfl (.tmp 20) (.tmp 18) rfl 36 rfl ((s.began+1:Nat):Int) (by first|rfl|exact qfs s.began|exact qg6 hbw) _ M.c36 _ rfl ?_;intro w9 R9 t9;replace B3:=t9.row B3 HB3.out;replace hG:=hG.trans (qcq t9) HFB.out;replace M:=M.setBegan (s.began+1) ⟨Nat.le_succ _,HBG.out⟩ R9 t9;clear R9 t9))
 have kS:True:=trivial
 refine RD (fun W=>True) kS (fun _=>?_)
 refine m7j ?_;refine m5i ?_;refine tq 3 (V (some ⟨b,35,none⟩)) rfl kS (tq 5 (V (some ⟨b,0,none⟩)) rfl kS (tq 6 (V (some ⟨b,0,none⟩)) rfl kS ?_));refine m5i ?_;refine tq 7 (V (some ⟨b,36,none⟩)) rfl kS ?_;refine m5i ?_;refine AR [4,8] ?_
 refine AP (fun K hK=>?_) ?_
 ·(refine qly (.tmp 24) rfl b 35 kr (.slice oa on oc) (by first|exact(M.cell 35).trans M.c35|exact((M.below (Below.refl _ _).drew).cell 35).trans M.c35) ?_)
  refine hK.out _ _ kS (fun _=>?_)
  clear hK K;(try simp only[ZZ]);refine AR [8] ?_
  refine AP (fun K hK=>?_) AZ
  (refine qil (.tmp 28) rfl b 36 kr (((s.began+1):Nat):Int) (by first|exact(M.cell 36).trans M.c36|exact((M.below (Below.refl _ _).drew).cell 36).trans M.c36) ?_)
  exact sZtn23
 refine AP (fun K hK=>?_) AZ
 (refine qil (.tmp 28) rfl b 36 kr (((s.began+1):Nat):Int) (by first|exact(M.cell 36).trans M.c36|exact((M.below (Below.refl _ _).drew).cell 36).trans M.c36) ?_)
 refine hK.out _ _ kS (fun _=>?_)
 clear hK K;(try simp only[ZZ]);refine AR [4,9] ?_
 refine AP (fun K hK=>?_) ?_
 ·(refine qly (.tmp 24) rfl b 35 kr (.slice oa on oc) (by first|exact(M.cell 35).trans M.c35|exact((M.below (Below.refl _ _).drew).cell 35).trans M.c35) ?_)
  exact sZtn23
 refine AP (fun K hK=>?_) AZ
 refine qot (.tmp 29) rfl (((s.began+1):Nat):Int) kr ?_;intro bq w9 l9 R9 h9;(first|replace h9:=qaj h9|skip);(try replace l9:World.heap.size _<=bq:=l9);replace M:=M.below h9;replace B3:=B3.below h9;refine m5y ?_;clear hG;intro hG;have BQ:=R9;clear R9 h9 l9
 refine hK.out _ _ kS (fun _=>?_)
 clear hK K;(try simp only[ZZ]);refine AR [4] ?_
 refine AP (fun K hK=>?_) AZ
 (refine qly (.tmp 24) rfl b 35 kr (.slice oa on oc) (by first|exact(M.cell 35).trans M.c35|exact((M.below (Below.refl _ _).drew).cell 35).trans M.c35) ?_)
 exact sZtn21
theorem qwi(fs:List (Nat×Fl))(n:Nat)(k:Fl):(setF fs n k).map (·.1)=fs.map (·.1):=by
 unfold setF
 rw[List.map_map]
 apply List.map_congr_left
 intro x hx
 simp only[Function.comp]
 split
 ·rename_i e;exact e.symm
 ·rfl
theorem q27(fs:List (Nat×Fl))(n:Nat)(k:Fl)(i:Int):(setF fs n k).find? (fun x=>decide ((x.1:Int)=i))=(fs.find? fun x=>decide ((x.1:Int)=i)).map fun x=>if x.1=n then(n,k) else x:=by
 unfold setF
 rw[List.find?_map]
 congr 1
 congr 1
 funext x
 simp only[Function.comp]
 by_cases e:x.1=n
 ·simp[e]
 ·simp[e]
theorem qqv(h:fs.find? (fun x=>decide ((x.1:Int)=i))=some x):(x.1:Int)=i:=by simpa using List.find?_some h
theorem qxt(k:Fl)(hp:fs.Pairwise (fun x y=>x.1<y.1))(hx:x∈fs):fsF (setF fs x.1 k)=qh4 (fsF fs) (x.1:Int) k:=by
 funext i
 have h1:=qf6 hp hx
 unfold fsF qh4 at *
 rw[q27]
 by_cases e:i=(x.1:Int)
 ·subst e
  rw[if_pos rfl]
  cases hf:fs.find? (fun y=>decide ((y.1:Int)=(x.1:Int))) with
  | none=>rw[hf] at h1;cases h1
  | some y=>
   have:=qqv hf
   (have hy:y.1=x.1:=by omega)
   simp[hy]
 ·rw[if_neg e]
  cases hf:fs.find? (fun y=>decide ((y.1:Int)=i)) with
  | none=>simp[hf]
  | some y=>
   have:=qqv hf
   (have hy:y.1≠x.1:=by omega)
   simp[hy,hf]
theorem qle(fs:List (Nat×Fl))(i:Int):duF fs i=(fsF fs i).map (·.du):=by unfold duF fsF;cases fs.find? (fun x=>decide ((x.1:Int)=i))<;>rfl
theorem q89(k:Fl)(hp:fs.Pairwise (fun x y=>x.1<y.1))(hx:x∈fs):duF (setF fs x.1 k)=setD (duF fs) (x.1:Int) k.du:=by
 funext i
 rw[qle,qxt k hp hx]
 unfold qh4 setD
 by_cases e:i=(x.1:Int)
 ·rw[if_pos e,if_pos e];rfl
 ·rw[if_neg e,if_neg e,qle]
theorem qum(h:gs.map (·.1)=fs.map (·.1))(hp:fs.Pairwise (fun x y=>x.1<y.1)):gs.Pairwise (fun x y=>x.1<y.1):=by
 (have h1:(fs.map (·.1)).Pairwise (· < ·):=by rw[List.pairwise_map];exact hp)
 rw[←h,List.pairwise_map] at h1
 exact h1
theorem q8b(h:gs.map (·.1)=fs.map (·.1)):gs.map (fun x=>(x.1:Int))=fs.map (fun x=>(x.1:Int)):=by
 have:=congrArg (List.map (fun n:Nat=>(n:Int))) h
 rw[List.map_map,List.map_map] at this
 exact this
theorem qja(h:qaw w b s (duF s.fs) F)(hx:x∈s.fs)(k:Fl)(hd0:0<=s.now)(hd1:s.now<=k.du)(hd2:k.du<=1099511627776):Calls prog 124 #[V (some ⟨b,0,none⟩),I Z ((x.1:Nat):Int),.agg (fc k)] w fun e w'=>e=.returned (.tuple #[])/\∃F',qaw w' b (s.keep x.1 k) (duF (s.keep x.1 k).fs) F'/\Gr F w w'/\∀c,F' c->F c\/w.heap.size<=c:=by
 obtain⟨cs,v,ov,fm,D,Fw0,cnt,M0,hF0⟩:=h;have M:=M0.bound;have hnm:=qwi s.fs x.1 k;(have hsome:(fsF s.fs (x.1:Int)).isSome=true:=by rw[qf6 M.up hx];rfl);(have hdu:(duF s.fs (x.1:Int)).isSome=true:=by rw[qle,qf6 M.up hx];rfl)
 refine(qh8 M (fun c hc=>hc.2) x.1 k (Nat.le_trans (M.num x hx) M.bg) om hd2 (fun e=>by rw[e] at hdu;cases hdu) (setF s.fs x.1 k) (qxt k M.up hx) (by rw[if_pos hsome];simp[setF]) (qum hnm M.up) (fun y hy=>?_) (by rw[if_pos hdu];simpa[setF] using M.few)).mono ?_
 ·have:y.1∈(setF s.fs x.1 k).map (·.1):=List.mem_map.2 ⟨y,hy,rfl⟩
  rw[hnm] at this
  obtain⟨z,hz,e⟩:=List.mem_map.1 this
  rw[←e];exact M.num z hz
 ·rintro e w' ⟨rfl,cs',fm',D',Fw',cnt',M',hfm,hfw,hg⟩
  refine⟨rfl,FpN Fw' fm' ov v s.ms,⟨cs',v,ov,fm',D',Fw',cnt',?_,fun c hc=>hc⟩,hg.mono (fun c hc=>?_),fun c hc=>?_⟩
  ·show NatM w' b cs' v ov fm' D' Fw' cnt' { s with fs:=setF s.fs x.1 k } (duF (setF s.fs x.1 k)) ((setF s.fs x.1 k).map fun x=>(x.1:Int))
   rw[q89 k M.up hx,q8b hnm];(have e:max k.du s.now=k.du:=by omega)
   rw[e] at M'
   exact M'
  ·rcases hc with hc|hc
   ·exact hF0 c (.inl hc.1)
   ·exact hF0 c (.inr (.inl hc))
  ·rcases hc with hc|hc|hc|hc
   ·rcases hfw c hc with h1|h1
    ·exact .inl (hF0 c (.inl h1.1))
    ·exact .inr h1
   ·rcases hfm c hc with h1|h1
    ·exact .inl (hF0 c (.inr (.inl h1)))
    ·exact .inr h1
   ·exact .inl (hF0 c (.inr (.inr (.inl hc))))
   ·exact .inl (hF0 c (.inr (.inr (.inr hc))))
theorem qaw.flowsCell(h:qaw w b s tm F):∃fm,w.cell? ⟨b,34,none⟩=some (.map fm):=by
 obtain⟨cs,v,ov,fm,D,Fw,cnt,M,hF⟩:=h
 exact⟨fm,(M.cell 34).trans M.c34⟩
theorem qaw.lookAt(h:qaw w b s tm F)(hc:w.cell? ⟨b,34,none⟩=some (.map fm))(hx:x∈s.fs):(Instr.lookup 85 (.map fm) (I Z ((x.1:Nat):Int)) false).run prog w=.ok (.agg (fc x.2)) w:=by
 obtain⟨cs,v,ov,fm',D,Fw,cnt,M,hF⟩:=h
 have:=(M.cell 34).trans M.c34
 rw[hc] at this
 cases this
 exact M.look_at hx
theorem qm6(t:TypeId)(m x:Operand)(ho:o.op=.lookup t m x false)(mv kv v:Value)(hm:a.eval m=mv)(hx:a.eval x=kv)(hr:(Instr.lookup t mv kv false).run prog w=.ok v w)(hK:K (a.put o.dst v) w):o.wp prog a w K Q:=by
 unfold Oper.wp
 simp[execOp,ho,hm,hx,hr,Result.andThen]
 exact hK
theorem qj9(x:Operand)(ho:o.op=.load 85 x)(b f:Nat)(hx:a.eval x=V (some ⟨b,f,none⟩))(v:Value)(hc:w.cell? ⟨b,f,none⟩=some v)(hr:K (a.put o.dst v) w):o.wp prog a w K Q:=by
 unfold Oper.wp execOp
 simp only[ho,hx]
 simp[go_sem,hc,underlying85]
 exact hr
theorem qaw.due(h:qaw w b s (duF s.fs) F)(hx:x∈s.fs):s.now<=x.2.du/\x.2.du<=1099511627776:=by
 obtain⟨cs,v,ov,fm',D,Fw,cnt,M,hF⟩:=h
 exact M.wheel.due (i:=(x.1:Int)) (by rw[qle,qf6 M.up hx];rfl)
theorem qvb(k:Fl)(x:Int)(inw:Bool):(qem k x inw).1.du=k.du:=by
 unfold qem qbi
 (repeat' split)<;>rfl
theorem q6d{x now:Int}{inw:Bool}(h0:now<=k.du)(h1:k.du<=1099511627776)(hn:now<=549755813888):now<=(qcu k x inw now).du/\(qcu k x inw now).du<=1099511627776:=by
 have key:(qem k x inw).1.du=k.du:=qvb k x inw
 unfold qcu
 split
 ·have:=quy (qem k x inw).1.pr (qem k x inw).1.st
  simp only
  omega
 ·rw[key];exact⟨h0,h1⟩
end Go.Proofs.YtonnjgmognbnbaaGreatDoor
