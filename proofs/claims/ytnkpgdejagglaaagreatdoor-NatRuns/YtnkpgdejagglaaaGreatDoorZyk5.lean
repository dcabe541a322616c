/-
  Of what a law stands on.
-/
import Derived.JoinedCond
import Derived.SevenTiedAt
import Derived.Test.YtnkpgdejagglaaaGreatDoorZyk4
set_option linter.all false
namespace Go.Proofs.YtnkpgdejagglaaaGreatDoor
open _root_.ByteArray renaming empty->ak
open _root_.Go renaming Calls->az,TypeId->bt,Value->ag,World->af
open _root_.Go.Proofs.Tryz renaming prog->ah
open _root_.List renaming eq_nil_of_length_eq_zero->iI,getElem?_eq_some_iff->aJ,length_take->eD,map_cons->aB,map_nil->aI,mem_map->bQ,range->aA
open Go.Value renaming int → I,pointer → V
open Go.IntKind renaming i64 → Z
open _root_.Go.Proofs.Tryz Go.ChangeShapes Go.WideShapes Go.ChangeAt Go.RowKit
set_option maxHeartbeats 16000000
set_option maxRecDepth 100000
variable {w:World}{base:Nat}{es:List Ac}{Q:Exit->Act->World->Prop}{k:Ac}
section
open Go.Maps
section
variable (w:World) (b':Nat) (loose:Bool) (sl v:Value) (es:List Ac)
end
section
variable {ops:Array Oper} {rest:List Oper} {o:Oper} {a:Act} {w:World} {Q:Exit->Act->World->Prop} {x y:Operand}
end
end
def M8(w:af)(sl:ag)(es:List Ac):Prop:=(eX w sl es/\es.length<=3518437208883)/\∀k∈es,k.ok
def PZ{H:Type}{enc:bt×ag->H}{sp:Nat->Bool}{held:Bool}{fuel:Nat}{l:List ag}{x:DataW H×List MemPlace}(Tm:DataW.trod enc ah w 0 sp held fuel 22 l=some x)(hw:∀y∈x.1.weights ah 22,y<=reachBytes):∃sl,∃es:List Ac,l=[sl]/\M8 w sl es:=by
 (have c4:ah.cellsOf 32=4:=by kernel_rfl);(have hby:ah.bytesOf 32=40:=by kernel_rfl)
 rcases Go.Deep.open_slice underlying22 Tm with⟨rfl,rfl⟩|⟨a,len,cap,m,n,D,Pl,rfl,hb,hl,hm,uV,rfl,hx⟩
 .exact⟨_,[],rfl,⟨⟨none,0,rfl,fun h=>absurd h zm,fun j hj=>absurd hj zm,by simp⟩,by simp⟩,fun k hk=>absurd hk zm⟩
 ·(have Pj:len<=m:=by rw[uV];split<;>omega)
  have ly:len<=3518437208883:=by
   have h1:=hw _ (by simp only[DataW.weights,underlying22];exact List.mem_cons_self)
   rw[hby] at h1
   simp[reachBytes] at h1
   omega
  have hwi:∀i,i<len->∀y∈(D i).weights ah 32,y<=reachBytes:=by
   intro i hi y hy;refine hw y ?_
   simp only[DataW.weights,underlying22]
   exact List.mem_cons_of_mem _ (List.mem_append.2 (.inl (qmb (bQ.2 ⟨i,List.mem_range.2 hi,rfl⟩) y hy)))
  have each:∀i,i<len->∃q:Ac,q.ok/\∀k v,(rk q)[k]?=some v->w.cell? (a.add (4*i+k))=some v:=by
   intro i hi;obtain⟨cs',h1,h2⟩:=hx i om
   rw[c4] at h1
   obtain⟨_,hlen,hcell⟩:=World.cells?_some h1
   obtain⟨q,rfl,hq⟩:=qr2 hlen h2 (hwi i hi)
   refine⟨q,hq,fun k v hv=>?_⟩
   (have hk:k<4:=by have:=(aJ.1 hv).1;simpa[rk] using this)
   have:=hcell k hk
   rw[Go.Deep.add_add,Nat.mul_comm i 4] at this
   first|exact this.trans hv|(rw[this];simpa using hv)
  haveI:Inhabited Ac:=⟨⟨0,0,0,ak⟩⟩
  obtain⟨q,hq⟩:=Go.Deep.choose_lt each
  have hsp:0<len->a=⟨a.block,a.off,none⟩:=by
   intro h0
   have:=(hq 0 h0).2 0 _ rfl
   obtain⟨b,off,spot⟩:=a;(have hspot:spot=none:=by simpa[Addr.add] using World.cell?_spot this)
   subst hspot
   rfl
  refine⟨_,(aA len).map q,rfl,⟨⟨some a,cap,by simp,fun h0=>?_,fun j hj k v hv=>?_,by rw[List.length_map,List.length_range];omega⟩,by simpa using ly⟩,fun k hk=>?_⟩
  .rw[hsp (by simpa using h0)];rfl
  ·(have hj':j<len:=by simpa using hj);(have e1:((aA len).map q)[j]=q j:=by simp)
   rw[e1] at hv
   have:=(hq j hj').2 k v hv
   rw[hsp om,Addr.add_lit] at this
   show w.cell? ⟨a.block,a.off+4*j+k,none⟩=some v
   rw[Nat.add_assoc]
   exact this
  .obtain⟨i,hi,rfl⟩:=bQ.1 hk
   exact(hq i (List.mem_range.1 hi)).1
def qph:laidOutB ah=true:=by kernel_rfl
def qo9:mapsRowed ah=true:=by kernel_rfl
def qmr:(ah.stops == [])=true:=by kernel_rfl
def qmx:(ah.stopKnobs == [])=true:=by kernel_rfl
def qmz:ah.plainKeys=false:=by kernel_rfl
def qm2:ah.stopsHeard=true:=by kernel_rfl
def qmq:ah.mayEnter=true:=by kernel_rfl
def qpi:ah.liftsFinal=Rows.natPlaysRow.lifted:=by kernel_rfl
def cD{a b:Bool}(h:a=true)(k:b=true):(a&&b)=true:=by rw[h,k];rfl
def UG{α:Type} [BEq α] [LawfulBEq α]{a b:α}(h:b=a):(a==b)=true:=by rw[h];exact beq_self_eq_true a
end Go.Proofs.YtnkpgdejagglaaaGreatDoor
