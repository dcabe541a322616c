/-
  Of what a law stands on.
-/
import Derived.Test.YtnkpgdejagglaaaGreatDoorZyk5
set_option linter.all false
namespace Go.Proofs.YtnkpgdejagglaaaGreatDoor
open _root_.Go renaming Operand->aU,Value->ag,World->af,wpList->aM,wpList_plain->bP
open _root_.Go.World renaming cell?->cS,ownsRow_nil->oy
open _root_.List renaming flatMap_append->nD,length_append->aY,length_cons->bU,map_cons->aB,map_nil->aI,map_toArray->dx
open _root_.Nat renaming le_refl->au,zero_add->bX
open Go.Value renaming int → I,pointer → V
open Go.IntKind renaming i64 → Z
open _root_.Go.Proofs.Tryz Go.ChangeShapes Go.WideShapes Go.ChangeAt Go.RowKit
set_option maxHeartbeats 16000000
set_option maxRecDepth 100000
variable {w w':World}{b base:Nat}{tm:Int->Option Int}{F:Nat->Prop}{v:Value}{p:Prop}{k:Fl}{ops:Array Oper}{rest:List Oper}{o:Oper}{a:Act}{Q:Exit->Act->World->Prop}{es:List Ac}
section
open Go.Maps
def qfa{s:Nt}(h:cC w b s tm F)(hl:s.ms.length<=1000):Calls prog 11 #[V (some ⟨b,0,none⟩)] w fun e w'=>∃sa c,e=.returned (.agg (tc s.f s.g s.h (.slice sa s.ms.length c)))/\cE w' (.slice sa s.ms.length c) s.ms/\jw (.slice sa s.ms.length c)/\(0<s.ms.length->w.heap.size<=mb (.slice sa s.ms.length c))/\Below w.heap.size w w':=by
 obtain⟨v0,ru,fh,PD,-⟩:=h.table
 obtain⟨a0,cap,dB,-⟩:=id fh
 obtain⟨n,hn⟩:∃n,n=s.ms.length:=⟨_,rfl⟩
 (have CC:=fun W (hM:cE W v0 s.ms)=>qy5 hM PD hl)
 rw[←hn] at dB
 simp only[←hn] at CC
 subst dB
 have HR:Hid (∀W,Below w.heap.size w W->W.rangeAt b 4 (tc s.f s.g s.h (.slice a0 n cap)).toList):=ar (fun W hb i u hu=>by
  have h1:=ru i u hu;have h2:=World.block_lt_of_cell? w _ h1
  exact(hb.cell (p:=⟨b,4+i,none⟩) h2).trans h1)
 have HN:Hid (n=s.ms.length):=hn;have B:=Bd.start w;(have hq:=fun w=>Wk b w);rw[←hn];clear ru PD hl h hn
 go_enter func11,ntmps11
 go_wp2_with (first|(refine gA 42 ?_;refine ax 2 42 qbp ?_;intro b2 w9 l9 R9 h9;replace B:=B.alloc l9 R9 h9;clear R9 h9 l9)|(refine gL 42 9 ?_;refine wpList_load_mid rfl 42 (.tmp 9) rfl b 4 rfl (tc s.f s.g s.h (.slice a0 n cap)).toList _ (HR.out _ B.base) underlying42 rfl (Il _ _ _ _) ?_;refine xZ ?_)|(refine gA 42 ?_;refine ax 3 42 qbp ?_;intro b3 w9 l9 R9 h9;replace B:=B.alloc l9 R9 h9;clear R9 h9 l9)|(refine gS 42 3 10 ?_;refine sx (tc s.f s.g s.h (.slice a0 n cap)) (B.row 0 rfl) ?_;intro w9 R9 t9;replace B:=B.turn 0 rfl R9 t9;clear R9 t9;have cM:cS _ ⟨b3,29,none⟩=some (.slice a0 n cap):=((B.row 0 rfl).cell 29).trans (ma _ _ _ _))|(go_at_call 28;go_fit (CC _ (fh.below B.base));rintro e w5 ⟨sa,c,rfl,hM5,hN5,hl5,bh⟩;have HG5:Hid (0<s.ms.length->w.heap.size<=mb (.slice sa n c)):=ar (fun h0=>Nat.le_trans B.base.size (hl5 (HN.out▸h0)));replace B:=B.Jp bh hM5 (fun h0=>hl5 (HN.out▸h0));clear cM hl5 hM5 CC bh)|(refine gS 40 14 13 ?_;refine Vq (B.row 0 rfl) rfl _ _ rfl 29 rfl _ _ _ rfl _ (ma _ _ _ _) (tc s.f s.g s.h (.slice sa n c)) (Qc _ _ _ _ _) ?_;intro w9 R9 t9;replace B:=B.turn 0 rfl R9 t9;clear R9 t9)|(refine gL 42 3 ?_;refine lx 42 (.tmp 3) (tc s.f s.g s.h (.slice sa n c)) (B.row 0 rfl) ?_)|(refine gS 42 2 15 ?_;refine sx (tc s.f s.g s.h (.slice sa n c)) (B.row 1 rfl) ?_;intro w9 R9 t9;replace B:=B.turn 1 rfl R9 t9;clear R9 t9))
 (refine bodyPost_ret (mW (p:=2) rfl _ _ _ _ rfl (B.row 1 rfl) _ underlying42 rfl (oD _ _ _ _)) rfl ⟨sa,c,rfl,B.map 0 rfl,hN5,fun h0=>HG5.out (HN.out▸h0),B.base⟩)
theorem qz8(ks:List Fl)(k:Fl):(ks++[k]).flatMap (fun k=>(fc k).toList)=ks.flatMap (fun k=>(fc k).toList)++(fc k).toList:=by rw[nD];simp
def q3u{ks:List Fl}(h:qj w base v ks)(R:aP 75 w b (fc k))(hl:ks.length<=5000000)(hbase:base<=w.heap.size)(ty:TypeId):
  ∃v' w',(Builtin.append_ #[43,43] ty #[v,.slice (some ⟨b,0,none⟩) 1 1]).run prog w=.ok v' w'/\qj w' base v' (ks++[k])/\dC v v' w w':=by
 obtain⟨i0,hi,hz0,hz1,hz2⟩:=info_parts qzr
 obtain⟨v',w',h1,h2,h3,_,h5⟩:=run_append_own_at (P:=prog) w base 43 ty 75 i0 (.agg (fc uo)) 10 80 underlying43 hi hz0 hz1 hz2 rfl (by decide) v ks.length (ks.flatMap fun k=>(fc k).toList) h ⟨b,0,none⟩ 1 1 (fc k).toList rfl
  (fun j u hu=>by rw[Addr.add_lit,bX];exact(R.cell j).trans (by simpa using hu)) (fun u hu=>(Array.all_eq_true_iff_forall_mem.1 (qa5 k)) u (by simpa using hu)) (by unfold maxLen;omega) om hbase
 refine⟨v',w',h1,?_,⟨h3,?_⟩⟩
 .unfold qj;rw[qz8,aY];exact h2
 .rcases h5 with e|e
  .exact .inl e
  .exact .inr ⟨_,e,au _⟩
def qv2(hgd:o.guard=none)(x:aU)(ho:o.op=.buildSlice 43 1 #[(0,x)])(k:Fl)(hx:a.eval x=.agg (fc k))(hr:∀b w',w.heap.size<=b->aP 75 w' b (fc k)->Below w.heap.size w w'->aM prog ops Q rest (a.put o.dst (.slice (some ⟨b,0,none⟩) 1 1)) w'):aM prog ops Q (o::rest) a w:=
 bP hgd fun K hK=>by
  have h':=hr w.heap.size (w.alloc (.cells (fc k) 75)) (au _) (aP.new _ w _) ((Below.refl _ _).alloc (au _) _)
  unfold Oper.wp execOp
  simp only[ho,dx,aB,aI,hx,Sem.run_bind,q2k,Result.andThen_ok,Sem.run_pure]
  exact hK _ _ h'
def qun(hgd:o.guard=none)(s x:aU)(ho:o.op=.call { callee:=.builtin .append,args:=#[s,x],argTypes:=#[43,43] }){ks:List Fl}(h:qj w base v ks)(R:aP 75 w b (fc k))(hs:a.eval s=v)(hx:a.eval x=.slice (some ⟨b,0,none⟩) 1 1)(hl:ks.length<=5000000)(hbase:base<=w.heap.size)(hr:∀v' w',qj w' base v' (ks++[k])->dC v v' w w'->aM prog ops Q rest (a.put o.dst v') w'):aM prog ops Q (o::rest) a w:=
 bP hgd fun K hK=>by
  obtain⟨v',w',h1,h2,h3⟩:=q3u h R hl hbase o.type
  exact xy
def qhb{s:Nt}(h:cC w b s tm F):Calls prog 13 #[V (some ⟨b,0,none⟩)] w fun e w'=>∃v,e=.returned v/\qj w' w.heap.size v (s.fs.map (·.2))/\Below w.heap.size w w':=by
 obtain⟨cs,v,ov,fm,D,Fw,cnt,M0,hF⟩:=h;obtain⟨sa,kp,iA⟩:=Gg M0.ids
 obtain⟨n,hn⟩:∃n,n=s.fs.length:=⟨_,rfl⟩
 (have Pj:(s.fs.map fun x=>(x.1:Int)).length=n:=by simp[hn])
 rw[Pj] at iA
 subst iA
 have HN:Hid (n=s.fs.length):=hn;have HB:Hid (n<=702):=ar (by have:=Ih M0;omega);have nj:=(M0.cell 35).trans M0.nj;(have hq:=fun w=>Wk b w);clear hn Pj
 go_enter func13,ntmps13
 go_wp2_with (refine gL 44 10 ?_;refine qn5 rfl (.tmp 10) rfl b 35 rfl (.slice sa n kp) nj ?_)
 go_loopw [3,13] (fun fv i W=>∃j:Nat,j<=n/\i=I Z (j:Int)/\qj W w.heap.size fv ((s.fs.take j).map (·.2))/\Below w.heap.size w W) (fun _ i _=>n-(intOf i).toNat)
 case atStart=>exact⟨0,Nat.zero_le _,rfl,qj.nil _ _,Below.refl _ _⟩
 case round=>
  obtain⟨j,hj,rfl,Im,hb⟩:=hrel
  by_cases hlt:j<n
  ·(have iu:j<s.fs.length:=by have:=HN.out;omega);(have kQ:(j:Int)<(n:Int):=by omega);have HM:=Hr hlt;have fU:=oQ (p:=j) (by have:=HB.out;omega);have M:=M0.below hb;have hx:s.fs[j]∈s.fs:=List.getElem_mem iu;obtain⟨g,WH,pd,TA⟩:=Tu M.ids (j:=j) (by simpa using iu)
   obtain⟨rfl,-⟩:sa=some ⟨g,0,none⟩/\_:=by simpa using pd
   rw[List.getElem_map] at TA
   have LK:=M.sF hx;have kj:=(M.cell 34).trans M.kj;(have hst:(s.fs.take (j+1)).map (·.2)=(s.fs.take j).map (·.2)++[s.fs[j].2]:=by rw[List.take_succ_eq_append_getElem iu,List.map_append];rfl);(have sk:=fun w=>Ii g n kp j hlt w)
   generalize s.fs[j]=x at *
   have HST:Hid _:=ar hst;have HFL:Hid (((s.fs.take j).map (·.2)).length<=5000000):=ar (by rw[List.length_map,List.length_take];have:=HB.out;omega)
   generalize(s.fs.take j).map (·.2)=ks at *
   clear hst pd hx iu
   go_wp2_with (first|((with_reducible refine iE (.lookup 55 (.tmp 21) (.tmp 22) false) rfl ?_);refine F5 ?_)|((with_reducible refine iE (.buildSlice 43 1 #[(0,.tmp 23)]) rfl ?_);refine qv2 rfl (.tmp 23) rfl x.2 rfl ?_;intro b24 w9 l9 R9 h9;replace Im:=Im.below h9;replace hb:=hb.trans (h9.mono hb.size);clear LK kj TA M)|((with_reducible refine iE (.call { callee:=.builtin .append,args:=#[.tmp 17,.tmp 24],argTypes:=#[43,43] }) rfl ?_);refine qun rfl (.tmp 17) (.tmp 24) rfl Im R9 rfl rfl HFL.out hb.size ?_;intro fv9 w8 Gi yR;replace hb:=qz1 hb yR (fun k hk=>(Im.ge k hk).1);replace Im:=Gi;clear Gi yR R9))
   go_roundw
   case rel=>
    have T9:=HST.out▸Im
    first
     | exact⟨j+1,by omega,by go_num,T9,hb⟩
   case measure=>first|(rw[fU];exact HM.out)
  ·(have kQ:¬(j:Int)<(n:Int):=by omega)
   obtain rfl:j=n:=by omega
   have e:s.fs.take j=s.fs:=List.take_of_length_le (by have:=HN.out;omega)
   rw[e] at Im
   clear e hj hlt
   go_wp2
   go_ret
   exact⟨_,rfl,Im,hb⟩
end
section
open Go.Maps
end
end Go.Proofs.YtnkpgdejagglaaaGreatDoor
