/-
  Of what a law stands on.
-/
import Derived.Test.YtnkpgdejagglaaaGreatDoorZyn11q
set_option linter.all false
namespace Go.Proofs.YtnkpgdejagglaaaGreatDoor
open _root_.Go renaming Value->ag,World->af
open _root_.Nat renaming le_refl->au,le_trans->aw,lt_of_lt_of_le->bi
open Go.Value renaming int → I,pointer → V
open Go.IntKind renaming i64 → Z
open _root_.Go.Proofs.Tryz Go.ChangeShapes Go.WideShapes Go.ChangeAt Go.RowKit
set_option maxHeartbeats 16000000
set_option maxRecDepth 100000
variable {s:Nt}{p:Prop}{l:List UInt8}{a q:Int}{tm:Int->Option Int}{H:Type}{w:World}{base:Nat}{v:Value}{rs:List Rp}
section
open Go.Maps
section
variable {loose:Bool} {lf:FuncId} {wo:Array Value} {J:List Ac->(Nat->Prop)->World->Prop} {G0 F G F' G':Nat->Prop} {w W W' W2:World} {b:Nat} {l:List Ac} {a:Ac} {L:List (Nat×Obj)}
end
def qjr(loose:Bool)(l:List Ac)(hl:l.length<=300):kh ((gu loose).runs l) l.length:=by
 have:=(kh.new loose).runs l om
 rwa [Nat.zero_add] at this
end
section
open Go.Maps
section
variable {w W W':World} {b:Nat} {v v':Value} {s:Nt} {rs:List Rp} {F:Nat->Prop}
def Rn.TQ(h:Rn w W b v s rs F){k:Rp}(hO:nK W' w.heap.size v' (rs++[k]))(hg:dC v v' W W'):Rn w W' b v' s (rs++[k]) F:=
 ⟨h.nat.keep (Gr.ep (F:=fun c=>v.ownBlock=some c) hg.ii (fun c hc=>hc)) (fun c hc e=>h.off c e hc),h.new,fun c hc=>bi (h.bd c hc) hg.ii.size,hO,
  fun k hk hc=>by
   rcases hg.lies with e|⟨d,e,hd⟩
   .exact h.off k (e▸hk) hc
   .rw[e] at hk;have:=h.bd k hc;have:=Option.some.inj hk;omega,
  qz1 h.low hg (fun k hk=>(h.out.ge k hk).1)⟩
end
def qhR(w:af):(zeroValue 32).run prog w=.ok (.agg (ac ⟨0,0,0,ByteArray.empty⟩)) w:=by kernel_rfl
theorem qhS(s:Nt)(l:List Ac)(a:Ac):s.runs (l++[a])=((s.runs l).act a).2:=by
 induction l generalizing s with
 | nil=>rfl
 | cons b r ih=>
  have e:s.runs (b::r)=((s.act b).2).runs r:=rfl;rw[e,List.cons_append];have e2:s.runs (b::(r++[a]))=((s.act b).2).runs (r++[a]):=rfl;rw[e2,ih]
def Tj(loose:Bool)(sl:ag)(es:List Ac)(w:af)(hA:eX w sl es)(iZ:∀k∈es,k.ok)(hT:jv w)(hle:es.length<=300):Calls prog 14 #[.bool loose,sl] w fun e w'=>∃v,e=.returned (.tuple #[v,I Z 0])/\nK w' w.heap.size v ((gu loose).il es)/\Below w.heap.size w w':=by
 obtain⟨a0,cap,dB⟩:=hA.slice
 obtain⟨n,hn⟩:∃n,n=es.length:=⟨_,rfl⟩
 rw[←hn] at dB
 subst dB
 have HN:Hid (n=es.length):=hn;have HT:Hid (jv w):=hT;(have MO:¬(300:Int)<(n:Int):=by omega);(have CN:=fun w=>qu0 loose w);clear hn hT
 go_enter func14,ntmps14
 go_wp2_with (go_at_call 5;go_fit (CN _);rintro e w2 ⟨b,rfl,zj,hN1,hb2⟩;clear CN;have P:=Rn.start zj hN1 hb2;clear zj hN1 hb2)
 go_loopw [7,17] (fun rv i W=>∃(j:Nat) (F:Nat->Prop),j<=n/\i=I Z (j:Int)/\Rn w W b rv ((gu loose).runs (es.take j)) ((gu loose).il (es.take j)) F) (fun _ i _=>n-(intOf i).toNat)
 case atStart=>exact⟨0,_,Nat.zero_le _,rfl,P⟩
 case round=>
  clear P
  obtain⟨j,F,hj,rfl,P⟩:=hrel
  by_cases h1:j<n
  ·(have hj1:(j:Int)<(n:Int):=by omega);(have iu:j<es.length:=by have:=HN.out;omega);have HM:=Hr h1;have fU:=oQ (p:=j) om
   obtain⟨x,hx⟩:∃x,es[j]=x:=⟨_,rfl⟩
   have hxo:x.ok:=iZ x (hx▸List.getElem_mem iu);have qA:Hid (es.take j++[x]=es.take (j+1)):=ar (by rw[List.take_succ_eq_append_getElem iu,hx]);have hlen:(es.take j).length=j:=List.length_take_of_le om;have hinv:=qjr loose (es.take j) om;(have hpl:((gu loose).il (es.take j)).length<=5000000:=by rw[FZ];omega)
   generalize es.take j=l at *
   have rx:=(hA.ib P.gr (fun _ h=>h)).at j iu hx;(have sk:=fun w2=>hA.index j iu w2);(have CD:=fun W F v rs (P:Rn w W b v ((gu loose).runs l) rs F)=>qos P.nat (HT.out.gr P.gr id) (fun hh=>by have:=P.new 0 hh;have:=HT.out.lt;omega) (hinv.ok om) x hxo)
   go_wp2_with (first|(refine gL 32 19 ?_;refine wpList_load_mid rfl 32 (.tmp 19) rfl _ _ rfl (rk x) _ rx underlying32 rfl (qv8 _) ?_;rw[q9l])|(refine gA 32 ?_;refine ax 9 32 qhR ?_;intro b9 w9 l9 R9 h9;have HF9:Hid (¬F b9):=ar (fun hh=>by have:=P.bd _ hh;omega);have HO9:=P.out;have HV9:Hid (_≠some b9):=ar (fun hh=>by have:=(HO9.ge _ hh).2;omega);clear HO9;have HL:Hid (w.heap.size<=b9):=ar (aw P.low.size l9);replace P:=P.below h9;clear h9 l9 rx)|(refine gS 32 9 20 ?_;refine sx (ac x) R9 ?_;intro w8 R8 t8;replace P:=P.turned t8 HF9.out HV9.out HL.out;clear R9 t8)|(refine gL 32 9 ?_;refine lx 32 (.tmp 9) (ac x) R8 ?_)|(go_at_call 7;refine(CD _ _ _ _ P).mono ?_;rintro e w5 ⟨rfl,F9,fY,dX,fH⟩;clear CD R8;replace P:=P.call fY dX fH;clear fY dX fH)|((with_reducible refine iE (.buildSlice 52 1 #[(0,.tmp 24)]) rfl ?_);refine qhG rfl (.tmp 24) rfl (((gu loose).runs l).act x).1 rfl ?_;intro b25 w9 l9 R9 h9;replace P:=P.below h9;clear h9 l9)|((with_reducible refine iE (.call { callee:=.builtin .append,args:=#[.tmp 21,.tmp 25],argTypes:=#[52,52] }) rfl ?_);refine qhH rfl (.tmp 21) (.tmp 25) rfl P.out R9 rfl rfl hpl P.low.size ?_;intro v9 w7 O9 g9;replace P:=P.TQ O9 g9;clear O9 g9 R9))
   go_roundw
   case rel=>
    (have e1:(gu loose).il l++[(((gu loose).runs l).act x).1]=(gu loose).il (es.take (j+1)):=by rw[←qA.out,qhB]);(have e2:(((gu loose).runs l).act x).2=(gu loose).runs (es.take (j+1)):=by rw[←qA.out,qhS])
    rw[e1,e2] at P
    first
     | exact⟨j+1,_,by omega,by go_num,P⟩
   case measure=>first|exact HM.out 
  ·(have hj1:¬(j:Int)<(n:Int):=by omega);have e:es.take j=es:=List.take_of_length_le (by have:=HN.out;omega)
   rw[e] at P
   go_wp2_with fail
   go_ret2
   exact⟨_,rfl,P.out,P.low⟩
theorem Tg(es:List Ac):(es.flatMap rk).length=es.length*4:=by
 induction es with
 | nil=>rfl
 | cons e r ih=>rw[List.flatMap_cons,List.length_append,ih,List.length_cons];simp[rk];omega
theorem Th(es:List Ac)(q r:Nat)(hq:q<es.length)(hr:r<4):(es.flatMap rk)[4*q+r]?=(rk es[q])[r]?:=by
 induction es generalizing q with
 | nil=>simp at hq
 | cons e l ih=>
  rw[List.flatMap_cons];have hl:(rk e).length=4:=rfl
  exact Dt
def qgS(es:List Ac):∀u∈es.flatMap rk,u.oneCell'=true:=by
 intro u hu
 obtain⟨e,_,he⟩:=List.mem_flatMap.1 hu
 simp[rk] at he
 rcases he with rfl|rfl|rfl|rfl<;>rfl
def qgR:(prog.info? 32).map (fun i=>(i.zero,i.size,i.bytes))=some (some (.agg (ac ⟨0,0,0,ByteArray.empty⟩)),4,40):=by kernel_rfl
end
end Go.Proofs.YtnkpgdejagglaaaGreatDoor
