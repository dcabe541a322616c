/-
  Of what a law stands on.
-/
import Derived.Test.YtonnjgmognbnbaaGreatDoorZtTpV
set_option linter.unusedSimpArgs false
set_option linter.unusedVariables false
namespace Go.Proofs.YtonnjgmognbnbaaGreatDoor
open Go.Value renaming int → I,pointer → V
open Go.IntKind renaming i64 → Z
open _root_.Go.Proofs.Tryz Go.ChangeShapes Go.WideShapes Go.ChangeAt Go.RowKit Go.Maps
set_option maxHeartbeats 16000000
set_option maxRecDepth 100000
theorem qdnb{ops:Array Oper}{rest:List Oper}{o:Oper}{a:Act}{w:World}{Q:Exit->Act->World->Prop}(hgd:o.guard=none)(ho:o.op=.alloc 9)(hr:∀b w',w.heap.size<=b->Row 9 w' b #[.string ByteArray.empty]->Below w.heap.size w w'->wpList prog ops Q rest (a.put o.dst (V (some ⟨b,0,none⟩))) w'):wpList prog ops Q (o::rest) a w:=
 wpList_plain hgd fun K hK=>by
  have h':=hr w.heap.size (w.alloc (.cells #[.string ByteArray.empty] 9)) (Nat.le_refl _) (Row.new _ w _) ((Below.refl _ _).alloc (Nat.le_refl _) _);(have e:(Instr.alloc 9 true (.tuple #[])).run prog w=.ok (V (some ⟨w.heap.size,0,none⟩)) (w.alloc (.cells #[.string ByteArray.empty] 9)):=by kernel_rfl)
  unfold Oper.wp execOp
  simp only[ho,Sem.run_bind,e,Result.andThen_ok,Sem.run_pure]
  exact hK _ _ h'
theorem qgib(x y:ByteArray):(x++y).data.toList=x.data.toList++y.data.toList:=by simp
theorem qf4b(bl:Nat)(G:Nat->Prop)(hGi:G bl)(L:ByteArray)(a:Ac)(c:Int)(fr:ByteArray)(inn:Bool)(lg:ByteArray)(hz:L.size+lg.size<=1000000)(b:Nat)(W:World)(Rl:Row 9 W bl #[.string L]):Calls prog 41 #[V (some ⟨b,0,none⟩),.agg (ac a),.agg (Rp.cells ⟨c,fr,inn,lg⟩),V (some ⟨bl,0,none⟩)] W fun e w'=>e=.returned (.bool true)/\Gr G W w'/\Row 9 w' bl #[.string (L++lg)]:=by
 have hG:=Gr.refl G W;have HGI:Hid (G bl):=hidN hGi;clear hGi
 go_enter func41,ntmps41
 go_wp2_with (first|((with_reducible refine gB 23 1 ?_);refine m4v ?_;intro b5 w9 l9 R5 h9;replace hG:=hG.trans (Gr.of_below (F:=fun _=>False) h9) (fun _ h=>h.elim);replace Rl:=Rl.below h9;clear h9 l9 R5)|((with_reducible refine gB 27 2 ?_);refine m3d ?_;intro b6 w9 l9 R6 h9;replace hG:=hG.trans (Gr.of_below (F:=fun _=>False) h9) (fun _ h=>h.elim);replace Rl:=Rl.below h9;clear h9 l9)|((with_reducible refine gL 9 3 ?_);refine qcm Rl (.tmp 3) rfl kr 0 rfl L rfl ?_)|((with_reducible refine gL 9 9 ?_);refine qcm R6 (.tmp 9) rfl kr 3 rfl lg (qb2 _) ?_)|((with_reducible refine gS 9 3 11 ?_);refine qbh Rl rfl (.tmp 3) (.tmp 11) rfl 0 rfl (L++lg) rfl _ rfl _ rfl ?_;intro w9 R9 t9;replace hG:=hG.trans (qcq t9) (fun x hx=>.inl (by rw[hx];exact HGI.out));replace Rl:Row 9 w9 bl #[.string (L++lg)]:=R9;clear R9 t9))
 go_ret
 exact⟨rfl,hG,Rl⟩
def JQ(loose:Bool)(bl:Nat)(l:List Ac)(G:Nat->Prop)(W:World):Prop:=(∃L all,Row 9 W bl #[.string L]/\qdcb ((nt0 loose).runs l) L.data.toList all/\L.size<=1100*l.length)/\∀c,G c↔c=bl
theorem qesb{loose:Bool}{l:List Ac}(hl:l.length<300){L:ByteArray}{all:List Ev}(hT:qdcb ((nt0 loose).runs l) L.data.toList all)(a:Ac):∃es,qdcb (((nt0 loose).runs l).act a).2 (L++(((nt0 loose).runs l).act a).1.lg).data.toList (all++es)/\(((nt0 loose).runs l).act a).1.lg.size<=1100:=by
 have hinv:=qjr loose l om;obtain⟨es,hE⟩:=qfxb hinv.ci a
 refine⟨es,?_,?_⟩
 ·rw[qgib];exact hT.more hE (by have:=hinv.logged;omega)
 ·rw[hE.lg];exact qf0b _ hE.few
theorem qe6b(loose:Bool)(bl:Nat):Look loose 41 #[V (some ⟨bl,0,none⟩)] (JQ loose bl):=by
 refine⟨fun args w=>by kernel_rfl,?_,?_,?_⟩
 ·rintro l G H W W' ⟨⟨L,all,h1,h2⟩,hG⟩ hg hd
  exact⟨⟨L,all,(hg.block _ h1.lt (fun hh=>hd _ hh ((hG _).2 rfl))).trans h1,h2⟩,hG⟩
 ·rintro l G W ⟨⟨L,all,h1,h2⟩,hG⟩ c hc
  rw[(hG c).1 hc];exact h1.lt
 ·rintro l a W b F G hl ha hN hT hF0 hd ⟨⟨L,all,h1,h2,h3⟩,hG⟩;obtain⟨es,h4,h5⟩:=qesb om h2 a;have hrs:(nt0 loose).runs (l++[a])=(((nt0 loose).runs l).act a).2:=qih _ _ _
  generalize((nt0 loose).runs l).act a=r at *
  obtain⟨⟨c,fr,inn,lg⟩,s2⟩:=r
  simp only at h4 h5 hrs
  refine(qf4b bl G ((hG _).2 rfl) L a c fr inn lg om b W h1).mono ?_;rintro e w' ⟨he,hg,hr⟩
  refine⟨he,G,⟨⟨L++lg,all++es,hr,by rw[hrs];exact h4,?_⟩,hG⟩,hg,fun c hc=>.inl hc⟩
  rw[ByteArray.size_append,List.length_append];simp only[List.length_singleton];omega
end Go.Proofs.YtonnjgmognbnbaaGreatDoor
