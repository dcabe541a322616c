/-
  Of what a law stands on.
-/
import Derived.Test.YtonnjgmognbnbaaGreatDoorZtn10
set_option linter.unusedSimpArgs false
set_option linter.unusedVariables false
namespace Go.Proofs.YtonnjgmognbnbaaGreatDoor
open Go.Value renaming int → I,pointer → V
open Go.IntKind renaming i64 → Z
open _root_.Go.Proofs.Tryz Go.ChangeShapes Go.WideShapes Go.ChangeAt Go.RowKit Go.Maps
set_option maxHeartbeats 16000000
set_option maxRecDepth 100000
variable {w w':World}{v:Value}{ms:List Mp}{n:Nat}
def OwnM(w:World)(v:Value)(n:Nat):Prop:=0<n->∃b c cs,v=.slice (some ⟨b,0,none⟩) n c/\w.heap[b]?=some (.cells cs 50 (0,0))/\5*n<=cs.size
theorem OwnM.of{base:Nat}(h:w.ownsRow base 50 5 v ms.length (flat ms)):OwnM w v ms.length:=fun h0=>by
 rcases h.2 with⟨e,n0⟩|⟨b,cap,cur,hv,hbb,hh,hnc,hcm,hcs,ht⟩
 ·omega
 ·exact⟨b,cap,cur,hv,hh,by rw[hcs];omega⟩
theorem OwnM.keep(h:OwnM w v n)(hs:0<n->w'.heap[mb v]?=w.heap[mb v]?):OwnM w' v n:=fun h0=>by
 obtain⟨b,c,cs,h1,h2,h3⟩:=h h0
 subst h1
 exact⟨b,c,cs,rfl,(hs h0).trans h2,h3⟩
theorem OwnM.turn{c:Nat}(h:OwnM w v n)(T:qbl c w w')(hn:0<n->mb v≠c):OwnM w' v n:=h.keep (fun h0=>T.other _ (hn h0))
theorem OwnM.lt(h:OwnM w v n)(h0:0<n):mb v<w.heap.size:=by
 obtain⟨b,c,cs,h1,h2,h3⟩:=h h0
 subst h1
 exact(Array.getElem?_eq_some_iff.1 h2).1
theorem OwnM.below(h:OwnM w v n)(hb:Below w.heap.size w w'):OwnM w' v n:=h.keep (fun h0=>hb.block _ (h.lt h0))
theorem OwnM.at{W:World}(h:OwnM W v n)(q:Nat)(hq:q<n):∃cs,Row 50 W (mb v) cs/\5*n<=cs.size/\∀w2:World,(Instr.indexAt 37 v (I Z (q:Int))).run prog w2=.ok (V (some ⟨mb v,5*q,none⟩)) w2:=by
 obtain⟨b,c,cs,h1,h2,h3⟩:=h om
 subst h1
 refine⟨cs,h2,h3,fun w2=>?_⟩
 (have hn:((q:Int)).toNat<n:=by simpa using hq);(have hjl:(q:Int)<(n:Int):=by omega);(have hs:(sizeOf 50).run prog w2=.ok 5 w2:=by kernel_rfl);have hb:mb (.slice (some ⟨b,0,none⟩) n c)=b:=rfl;rw[hb]
 simp[go_sem,hq,hn,hjl,underlying37,hs]
theorem OwnM.set{cs:Array Value}(h:OwnM w v n)(R:Row 50 w' (mb v) cs)(hc:5*n<=cs.size):OwnM w' v n:=fun h0=>by
 obtain⟨b,c,cs0,h1,h2,h3⟩:=h h0
 subst h1
 exact⟨b,c,cs,rfl,R,hc⟩
theorem qigb(hM:qaz w v ms)(hno:qcs v)(hl:ms.length<=1000):Calls prog 61 #[v] w fun e w'=>∃sa c,e=.returned (.slice sa ms.length c)/\qaz w' (.slice sa ms.length c) ms/\OwnM w' (.slice sa ms.length c) ms.length/\(0<ms.length->w.heap.size<=mb (.slice sa ms.length c))/\Below w.heap.size w w':=by
 obtain⟨i0,hi,hz0,hz1,hz2⟩:=info_parts qnm;have hM0:=hM
 obtain⟨a0,cap,hsl,ha0,-⟩:=hM0
 have hlt:=hM.lt
 have HF:Hid (∀(v':Value) (w':World),w'.ownsRow w.heap.size 50 5 v' ms.length (flat ms)->Below w.heap.size w w'->∃sa c,Ending.returned v'=.returned (.slice sa ms.length c)/\qaz w' (.slice sa ms.length c) ms/\OwnM w' (.slice sa ms.length c) ms.length/\(0<ms.length->w.heap.size<=mb (.slice sa ms.length c))/\Below w.heap.size w w'):=hidN (fun v' w' ho hb=>by
  have hO:=OwnM.of ho;obtain⟨m1,m2,m3⟩:=qqm ho om
  obtain⟨sa,c,hv,-⟩:=id m1
  subst hv
  exact⟨sa,c,rfl,m1,hO,m3,hb⟩)
 obtain⟨n,hn⟩:∃n,n=ms.length:=⟨_,rfl⟩
 have HN:Hid (n=ms.length):=hn;have HL:Hid (ms.length<=1000):=hl
 rw[←hn] at hsl
 (have hq:=fun a c w=>qqc a n c w)
 cases a0 with
 | none=>
  have h0:ms=[]:=by
   cases ms with
   | nil=>rfl
   | cons m r=>have:=ha0 zm;cases this
  subst h0
  obtain rfl:n=0:=hn
  subst hsl
  (have hq2:=fun w=>qqc none 0 cap w);clear ha0 hlt hl hno HF HN HL hi hz0 hz1 hz2 hq hM
  go_enter func61,ntmps61
  go_wp2
  go_ret
  exact⟨none,0,rfl,qaz.nil _,fun h=>absurd h zm,fun h=>absurd h zm,Below.refl _ _⟩
 | some ad=>
  have src:∀ {W:World},Below w.heap.size w W->∀k u,(flat ms)[k]?=some u->W.cell? (ad.add k)=some u:=by
   intro W hb k u hu;refine m76 ?_;intro hk;have had:ad=⟨mb v,mo v,none⟩:=Option.some.inj (ha0 om);rw[had,Addr.add_lit]
   refine qrv (fun j hj=>?_) k u hu
   exact(hM.keep hb hlt).at j hj rfl
  subst hsl
  (have hq2:=fun w=>qqc (some ad) n cap w);clear ha0 hno hn hq hl
  go_enter func61,ntmps61
  go_wp2_with (first|((with_reducible refine qaa (.buildSlice 37 0 #[]) rfl ?_);refine qvv rfl rfl ?_;intro b5 w5 l5 ho5 hb5)|((with_reducible refine qaa (.call { callee:=.builtin .append,args:=#[.tmp 5,.tmp 6],argTypes:=#[37,37] }) rfl ?_);refine m33 ?_;intro v2 w2 hown2 hg2 hn2;clear hn2;simp only[Nat.zero_add,List.nil_append] at hown2;rw[HN.out] at hown2;refine m8c ?_;clear hg2;intro hg2))
  go_ret
  exact HF.out _ _ hown2 hg2
theorem qirb{b:Nat}{s:Nt}{tm:Int->Option Int}{F:Nat->Prop}(h:qaw w b s tm F)(hl:s.ms.length<=1000):Calls prog 21 #[V (some ⟨b,0,none⟩)] w fun e w'=>∃sa c,e=.returned (.agg (tc s.f s.g s.h (.slice sa s.ms.length c)))/\qaz w' (.slice sa s.ms.length c) s.ms/\OwnM w' (.slice sa s.ms.length c) s.ms.length/\(0<s.ms.length->w.heap.size<=mb (.slice sa s.ms.length c))/\Below w.heap.size w w':=by
 obtain⟨v0,hr0,hM0,hN0,-⟩:=h.table
 obtain⟨a0,cap,hsl,-⟩:=id hM0
 obtain⟨n,hn⟩:∃n,n=s.ms.length:=⟨_,rfl⟩
 (have CC:=fun W (hM:qaz W v0 s.ms)=>qigb hM hN0 hl)
 rw[←hn] at hsl
 simp only[←hn] at CC
 subst hsl
 have HR:Hid (∀W,Below w.heap.size w W->W.rangeAt b 4 (tc s.f s.g s.h (.slice a0 n cap)).toList):=hidN (fun W hb i u hu=>by
  have h1:=hr0 i u hu;have h2:=World.block_lt_of_cell? w _ h1
  exact(hb.cell (p:=⟨b,4+i,none⟩) h2).trans h1)
 have HN:Hid (n=s.ms.length):=hn;have B:=Bd.start w;(have hq:=fun w=>qpc b w);rw[←hn];clear hr0 hN0 hl h hn
 go_enter func21,ntmps21
 go_wp2_with (first|((with_reducible refine gA 39 ?_);refine ax 2 39 qbp ?_;intro b2 w9 l9 R9 h9;replace B:=B.alloc l9 R9 h9;clear R9 h9 l9)|((with_reducible refine gL 39 9 ?_);refine m6o ?_;refine m2h ?_)|((with_reducible refine gA 39 ?_);refine ax 3 39 qbp ?_;intro b3 w9 l9 R9 h9;replace B:=B.alloc l9 R9 h9;clear R9 h9 l9)|((with_reducible refine gS 39 3 10 ?_);refine sx 39 (.tmp 3) _ (tc s.f s.g s.h (.slice a0 n cap)) (B.row 0 rfl) ?_;refine m31 ?_;clear B;intro w9 B;have cM:World.cell? _ ⟨b3,29,none⟩=some (.slice a0 n cap):=((B.row 0 rfl).cell 29).trans (qdw _ _ _ _))|(go_at_call 61;go_fit (CC _ (hM0.below B.base));rintro e w5 ⟨sa,c,rfl,hM5,hO5,hl5,hb5⟩;have HX3:Hid (0<n->mb (.slice sa n c)≠b3):=hidN (fun h0 e=>by have:=hl5 h0;have:=B.lt (b:=b3) zm;omega);have HX2:Hid (0<n->mb (.slice sa n c)≠b2):=hidN (fun h0 e=>by have:=hl5 h0;have:=B.lt (b:=b2) zm;omega);refine m92 ?_;clear B;intro HG5 B;clear cM hl5 hM5 CC hb5)|((with_reducible refine gS 37 14 13 ?_);refine m8z ?_;intro w9 R9 t9;replace B:=B.turn 0 rfl R9 t9;replace hO5:=hO5.turn t9 HX3.out;clear R9 t9)|((with_reducible refine gL 39 3 ?_);refine lx 39 (.tmp 3) (tc s.f s.g s.h (.slice sa n c)) (B.row 0 rfl) ?_)|((with_reducible refine gS 39 2 15 ?_);refine sx 39 (.tmp 2) _ (tc s.f s.g s.h (.slice sa n c)) (B.row 1 rfl) ?_;intro w9 R9 t9;replace B:=B.turn 1 rfl R9 t9;replace hO5:=hO5.turn t9 HX2.out;clear R9 t9))
 (refine m03 ?_;refine bodyPost_ret (qai (p:=2) rfl _ _ _ _ rfl (B.row 1 rfl) _ underlying39 rfl (qaq _ _ _ _)) rfl ⟨sa,c,rfl,B.map 0 rfl,(HN.out▸hO5),fun h0=>HG5.out (HN.out▸h0),B.base⟩)
end Go.Proofs.YtonnjgmognbnbaaGreatDoor
