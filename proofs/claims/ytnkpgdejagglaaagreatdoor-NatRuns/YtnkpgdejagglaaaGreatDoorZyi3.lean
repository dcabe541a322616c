/-
  Of what a law stands on.
-/
import Derived.Test.YtnkpgdejagglaaaGreatDoorZyi2
set_option linter.all false
namespace Go.Proofs.YtnkpgdejagglaaaGreatDoor
open _root_.ByteArray renaming empty->ak
open Go.Value renaming int → I,pointer → V
open Go.IntKind renaming i64 → Z
open _root_.Go.Proofs.Tryz Go.ChangeShapes Go.WideShapes Go.ChangeAt Go.RowKit
set_option maxHeartbeats 16000000
set_option maxRecDepth 100000
def lA(l:List UInt8)(side addr port:Int):Int:=
 if cj l≠0 then cj l else if side≠0/\side≠1 then 2 else if pg addr=false then 2 else if nH port=false then 2 else if (ba l).aG=1 then 12 else if (ba l).ae=1/\((ba l).flags==8)≠(side==0) then 4 else 0
def nI(l:List UInt8)(side addr port:Int):ByteArray:=if lA l side addr port=0 then bl (rZ l (ba l).ae side addr port) else ak
theorem FA(l:List UInt8):(ba l).ae=aC l 9:=by grind [ba,aC]
theorem qvz(s:ByteArray)(side addr port:Int)(w:World)(hs:s.size<=140737488351232):
  Calls prog 40 #[.string s,I Z side,I Z addr,I Z port] w fun e w'=>e=.returned (.tuple #[.string (nI s.data.toList side addr port),I Z (lA s.data.toList side addr port)])/\Below w.heap.size w w':=by
 unfold nI
 by_cases hb:cj s.data.toList=0
 ·(have hk:iw s.data.toList=ba s.data.toList:=by unfold iw;rw[aZ hb])
  by_cases h0:side≠0/\side≠1
  ·(have e:lA s.data.toList side addr port=2:=by unfold lA;rw[aT om,aZ h0])
   rw[e];exact q1j s side addr port w hs _ rfl hb h0.1 h0.2
  by_cases ha:pg addr=false
  ·(have e:lA s.data.toList side addr port=2:=by unfold lA;rw[aT om,aT h0,aZ ha])
   rw[e];exact q4e s side addr port w hs _ rfl hb om ha
  by_cases hp:nH port=false
  ·(have e:lA s.data.toList side addr port=2:=by unfold lA;rw[aT om,aT h0,aT ha,aZ hp])
   rw[e];exact q34 s side addr port w hs _ rfl hb om (by simpa using ha) hp
  by_cases h1:(ba s.data.toList).aG=1
  .grind [lA,q2n]
  by_cases h2:(ba s.data.toList).ae=1/\((ba s.data.toList).flags==8)≠(side==0)
  .grind [lA,q3e]
  (have e:lA s.data.toList side addr port=0:=by unfold lA;rw[aT om,aT h0,aT ha,aT hp,aT h1,aT h2]);rw[e,aZ rfl]
  obtain⟨H,P,_⟩:=OD _ hb
  have hpl:=Vz _ H.kind;have nV:=P.len;have jP:=mf s;have hK:=(Hd _).1 H.kind
  refine q8d s side addr port w hs _ hk hb om (by simpa using ha) (by simpa using hp) h1 (fun h3=>?_) om ?_ ?_
  .grind
  .have:=H.small;omega
  grind [FA,gH,fJ]
 ·(have e:lA s.data.toList side addr port=cj s.data.toList:=by unfold lA;rw[aZ hb])
  rw[e,aT hb];exact q60 s side addr port w hs _ rfl _ rfl hb
def rp(dst id:Int):bM:=⟨1,167772414,0,dst,0,64,id,0,0,0,0,ak⟩
def xf(dst id:Int)(x:List UInt8)(c1 c2:Int):List UInt8:=hd (rp dst id) 56 c1++([3,13]++cr c2++[0,0,0,0]++x)
def OE(dst id:Int):Int:=65535-bk (bJ (hd (rp dst id) 56 0))
def vC(x:List UInt8):Int:=65535-bk (bJ ([3,13]++cr 0++[0,0,0,0]++x))
def Rc(dst id:Int)(x:List UInt8):List UInt8:=xf dst id x (OE dst id) (vC x)
theorem q1c(dst id:Int)(x:List UInt8):q0r (xf dst id x 0 0)=xf dst id x (OE dst id) 0:=rfl
theorem q2x(dst id:Int)(x:List UInt8)(c1:Int):A3 (xf dst id x c1 0) 1=xf dst id x c1 (vC x):=by
 unfold A3
 have e1:et (xf dst id x c1 0) (fJ 1) 0=xf dst id x c1 0:=rfl;have e2:zr (xf dst id x c1 0) 1=vC x:=rfl;(have e3:∀c,et (xf dst id x c1 0) (fJ 1) c=xf dst id x c1 c:=fun _=>rfl)
 grind [Hi,vC]
theorem VP(dst id:Int)(x:List UInt8)(c1 c2:Int):(xf dst id x c1 c2).length=28+x.length:=by
 simp[xf];omega
def mg(l:List UInt8)(id:Int):Int:=if cj l≠0 then cj l else if nH id=false then 2 else 0
def oP(l:List UInt8)(id:Int):ByteArray:=if mg l id=0 then bl (Rc (ba l).src id (l.take 28)) else ak
def q0j(s : ByteArray)(id : Int)(w : World)(hs : s.size <= 140737488351232)(k : bM)(hk : iw s.data.toList = k)(e0 : Int)(hb : cj s.data.toList = e0)(he : e0 ≠ 0):
    Calls prog 134 #[.string s, I Z id] w fun e w' => e = .returned (.tuple #[.string ak, I Z e0]) /\ Below w.heap.size w w' := by
  (have hz : (e0==0) = false := by simpa using he)
  go_enter func134, ntmps134
  go_wp2_with (first | (go_at_call 29;refine(Rx s _ hs).mono ?_;rintro e w1 ⟨rfl, hb1⟩;rw[hb, hk];unfold pv) | (go_at_call 81;refine(Hk _ _).mono ?_;rintro e w' ⟨rfl, rfl⟩)
 )
  all_goals
    go_ret2
    exact⟨rfl, hb1.alloc hb1.size _⟩
def qxd(s:ByteArray)(id:Int)(w:World)(hs:s.size<=140737488351232)(k:bM)(hk:iw s.data.toList=k)(hb:cj s.data.toList=0)(qu:nH id=false):
  Calls prog 134 #[.string s,I Z id] w fun e w'=>e=.returned (.tuple #[.string ak,I Z 2])/\Below w.heap.size w w':=by
 go_enter func134,ntmps134
 go_wp2_with (first|(go_at_call 29;refine Hl ?_;intro w1 hb1;unfold pv)|(go_at_call 81;refine(Hk _ _).mono ?_;rintro e w' ⟨rfl,rfl⟩)|(go_at_call 83;refine(Ez _ _).mono ?_;rintro e w' ⟨rfl,rfl⟩))
 all_goals
  go_ret2
  exact⟨rfl,hb1.alloc hb1.size _⟩
def qv7{w w1 w':World}{o1 o2 o3:Obj}{G':Option Nat}(hb:Below w.heap.size w w1)(hS:cf (w1.heap.size+1+1) none G' (((w1.alloc o1).alloc o2).alloc o3) w'):Below w.heap.size w w':=by
 have h1:=hb.size;have b1:Below w.heap.size w (((w1.alloc o1).alloc o2).alloc o3):=((hb.alloc h1 o1).alloc (by simp;omega) o2).alloc (by simp;omega) o3
 exact b1.trans (hS.below (by have:=b1.size;omega) om (fun k e=>by cases e))
def q2j(s:ByteArray)(id:Int)(w:World)(hs:s.size<=140737488351232)(k:bM)(hk:iw s.data.toList=k)(hb:cj s.data.toList=0)(qu:nH id=true)(hl:28<=s.size):
  Calls prog 134 #[.string s,I Z id] w fun e w'=>e=.returned (.tuple #[.string (bl (Rc k.src id (s.data.toList.take 28))),I Z 0])/\Below w.heap.size w w':=by
 (have hx:(s.extract 0 28).data.toList=s.data.toList.take 28:=by rw[G9];simp);(have z1:(28:Int)<=(s.size:Int):=by omega)
 go_enter func134,ntmps134
 go_wp2_with (first|(go_at_call 29;refine Hl ?_;intro w1 hb1;unfold pv)|(go_at_call 83;refine(Ez _ _).mono ?_;rintro e w' ⟨rfl,rfl⟩))
 have h:Fr (((w1.alloc (.cells #[I Z k.ae,I Z k.src,I Z k.aj,I Z k.dst,I Z k.ai,I Z k.aG,I Z k.id,I Z k.flags,I Z k.seq,I Z k.bo,I Z k.br,.string k.body] 77)).alloc (.cells #[I Z 1,I Z 167772414,I Z 0,I Z k.src,I Z 0,I Z 64,I Z id,I Z 0,I Z 0,I Z 0,I Z 0,.string ak] 77)).alloc (.cells #[.slice none 0 0] 133)) (w1.heap.size+1+1) none []:=by
  have:=qwg ((w1.alloc (.cells #[I Z k.ae,I Z k.src,I Z k.aj,I Z k.dst,I Z k.ai,I Z k.aG,I Z k.id,I Z k.flags,I Z k.seq,I Z k.bo,I Z k.br,.string k.body] 77)).alloc (.cells #[I Z 1,I Z 167772414,I Z 0,I Z k.src,I Z 0,I Z 64,I Z id,I Z 0,I Z 0,I Z 0,I Z 0,.string ak] 77))
  simpa using this
 have hS:=cf.refl (w1.heap.size+1+1) none (((w1.alloc (.cells #[I Z k.ae,I Z k.src,I Z k.aj,I Z k.dst,I Z k.ai,I Z k.aG,I Z k.id,I Z k.flags,I Z k.seq,I Z k.bo,I Z k.br,.string k.body] 77)).alloc (.cells #[I Z 1,I Z 167772414,I Z 0,I Z k.src,I Z 0,I Z 64,I Z id,I Z 0,I Z 0,I Z 0,I Z 0,.string ak] 77)).alloc (.cells #[.slice none 0 0] 133))
 have hI:Fu (w1.heap.size+1) (w1.heap.size+1+1) none (((w1.alloc (.cells #[I Z k.ae,I Z k.src,I Z k.aj,I Z k.dst,I Z k.ai,I Z k.aG,I Z k.id,I Z k.flags,I Z k.seq,I Z k.bo,I Z k.br,.string k.body] 77)).alloc (.cells #[I Z 1,I Z 167772414,I Z 0,I Z k.src,I Z 0,I Z 64,I Z id,I Z 0,I Z 0,I Z 0,I Z 0,.string ak] 77)).alloc (.cells #[.slice none 0 0] 133)) #[I Z 1,I Z 167772414,I Z 0,I Z k.src,I Z 0,I Z 64,I Z id,I Z 0,I Z 0,I Z 0,I Z 0,.string ak]:=
  ⟨by simp,by omega,by simp,fun o=>by
   have:=Hb (w1.alloc (.cells #[I Z k.ae,I Z k.src,I Z k.aj,I Z k.dst,I Z k.ai,I Z k.aG,I Z k.id,I Z k.flags,I Z k.seq,I Z k.bo,I Z k.br,.string k.body] 77)) #[I Z 1,I Z 167772414,I Z 0,I Z k.src,I Z 0,I Z 64,I Z id,I Z 0,I Z 0,I Z 0,I Z 0,.string ak] 77 o
   rw[show(w1.alloc (.cells #[I Z k.ae,I Z k.src,I Z k.aj,I Z k.dst,I Z k.ai,I Z k.aG,I Z k.id,I Z k.flags,I Z k.seq,I Z k.bo,I Z k.br,.string k.body] 77)).heap.size=w1.heap.size+1 by simp] at this
   exact(World.cell?_of_block (a:=⟨w1.heap.size+1,o,none⟩) (Below.heap_alloc _ _ _ zm)).trans this⟩
 go_region_held3 (fun w'=>w'.cell? ⟨w1.heap.size+1,0,none⟩=some (I Z 1)/\w'.cell? ⟨w1.heap.size+1,1,none⟩=some (I Z 167772414)/\w'.cell? ⟨w1.heap.size+1,2,none⟩=some (I Z 0)/\w'.cell? ⟨w1.heap.size+1,3,none⟩=some (I Z k.src)/\w'.cell? ⟨w1.heap.size+1,4,none⟩=some (I Z 0)/\w'.cell? ⟨w1.heap.size+1,5,none⟩=some (I Z 64)/\w'.cell? ⟨w1.heap.size+1,6,none⟩=some (I Z id)/\w'.cell? ⟨w1.heap.size+1,7,none⟩=some (I Z 0)/\w'.cell? ⟨w1.heap.size+1,8,none⟩=some (I Z 0)/\w'.cell? ⟨w1.heap.size+1,9,none⟩=some (I Z 0)/\w'.cell? ⟨w1.heap.size+1,10,none⟩=some (I Z 0)/\w'.cell? ⟨w1.heap.size+1,11,none⟩=some (.string ak))
  (exact⟨hI.cell 0,hI.cell 1,hI.cell 2,hI.cell 3,hI.cell 4,hI.cell 5,hI.cell 6,hI.cell 7,hI.cell 8,hI.cell 9,hI.cell 10,hI.cell 11⟩)
  (first|(go_at_call 124;refine zt ?_;rintro e w' ⟨rfl,rfl⟩)|(go_at_call 180;refine(qp1 _ _ _ _ h.drew (rp k.src id) _ (by(try simp)<;>omega)).mono ?_;rintro e w' ⟨rfl,G1,h,hst⟩;replace hst:=qog hst;refine Hh ?_;clear hI hS hst;intro hI hS jR))
 go_wp2_with (first|(go_at_call 181;(refine(VB _ _ _ _ (h.alloc _) _ 8 [3,13,0,0,0,0,0,0] (q4j _ _ _ rfl) (by(try simp)<;>omega)).mono ?_;rintro e w' ⟨rfl,G1,h,hst⟩;replace hst:=Ri hst;refine Hh ?_;clear hI hS hst;intro hI hS jR))|(go_at_call 175;refine(qmm _ _ _ _ h _ (by simp<;>omega)).mono ?_;rintro e w' ⟨rfl,G1,h,hst⟩;refine Hh ?_;clear hI hS hst;intro hI hS jR;rw[hx,List.nil_append,List.append_assoc] at h;change Fr _ _ _ (xf k.src id (s.data.toList.take 28) 0 0) at h)|(go_at_call 182;obtain⟨g,hG,hpg,na⟩:=h.rd (by intro e;have:=congrArg List.length e;simp[VP] at this);rw[hG] at hS;refine(qob _ g _ _ na (by rw[VP];omega)).mono ?_;rintro e w' ⟨rfl,na,hst⟩;rw[hG] at hI;refine Hh ?_;clear hI hS hst;intro hI hS jR;rw[q1c] at na)|(go_at_call 147;refine(qlk _ g _ _ na 1 (by rw[VP];show 22+1<_;omega) (by rw[VP];simp;omega)).mono ?_;rintro e w' ⟨rfl,na,hst⟩;replace hS:=hS.trans hst;clear hst;rw[q2x] at na)|(go_at_call 87;refine(VD _ g _ _ na).mono ?_;rintro e w' ⟨rfl,rfl⟩))
 go_ret2
 exact⟨rfl,qv7 hb1 hS⟩
def qzs(s:ByteArray)(id:Int)(w:World)(hs:s.size<=140737488351232):
  Calls prog 134 #[.string s,I Z id] w fun e w'=>e=.returned (.tuple #[.string (oP s.data.toList id),I Z (mg s.data.toList id)])/\Below w.heap.size w w':=by
 unfold oP
 by_cases hb:cj s.data.toList=0
 ·(have hk:iw s.data.toList=ba s.data.toList:=by unfold iw;rw[aZ hb])
  by_cases hi:nH id=false
  ·(have e:mg s.data.toList id=2:=by unfold mg;rw[aT om,aZ hi])
   rw[e];exact qxd s id w hs _ rfl hb hi
  (have e:mg s.data.toList id=0:=by unfold mg;rw[aT om,aT hi]);rw[e,aZ rfl]
  obtain⟨H,P,_⟩:=OD _ hb
  have hpl:=Vz _ H.kind;have nV:=P.len;have jP:=mf s
  exact q2j s id w hs _ hk hb (by simpa using hi) om
 ·(have e:mg s.data.toList id=cj s.data.toList:=by unfold mg;rw[aZ hb])
  rw[e,aT hb];exact q0j s id w hs _ rfl _ rfl hb
theorem q1p(p:bM)(n c:Int)(h0:0<=c)(h1:c<=65535):bJ (hd p n c)=bJ (hd p n 0)+c:=by
 have e:∀c,bJ (hd p n c)=bJ ([69,0]++cr n++cr p.id++cr 0++[b8 p.aG,b8 p.ae])+(bJ (cr c)+bJ (iM p.src++iM p.dst)):=fun c=>by
  unfold hd
  rw[List.append_assoc,List.append_assoc,kX _ _ zm,kX _ (cr c) zm]
 grind [zV,bJ]
end Go.Proofs.YtnkpgdejagglaaaGreatDoor
