/-
  Of what a law stands on.
-/
import Derived.Test.YtnkpgdejagglaaaGreatDoorZyi2
set_option linter.all false
namespace Go.Proofs.YtnkpgdejagglaaaGreatDoor
open _root_.Go renaming Calls->az,World->af,bodyPost_ret->aL,results->eQ
open _root_.Go.IntKind renaming i64->eJ
open _root_.Go.Proofs.Tryz renaming prog->ah
open _root_.Go.RowKit renaming Below->aq,Hid->aK,intOf->cY
open _root_.Go.RowKit.Below renaming refl->cA,setCell->fy
open _root_.List renaming drop_eq_getElem_cons->dJ
open _root_.Nat renaming le_refl->au
open Go.Value renaming int → I,pointer → V
open Go.IntKind renaming i64 → Z
open _root_.Go.Proofs.Tryz Go.RowKit
set_option maxHeartbeats 16000000
set_option maxRecDepth 100000
variable {p:Prop}{W w w':World}{b:Nat}{cs:Array Value}
section
open Go.ChangeShapes Go.WideShapes Go.ChangeAt
def AH(h:p:=by
 go_ret
 exact⟨lQ (by rw[HA.out]),((Below.refl _ _).alloc (Nat.le_refl _) _).drew⟩):p:=h
theorem JD(s:ByteArray)(w:af)(hs:s.size<=140737488351232):
  az ah 106 #[.string s] w fun e w'=>e=.returned (I Z (bk (bJ s.data.toList)))/\aq w.heap.size w w':=by
 obtain⟨C,cap,G8,hcell⟩:=P5 s w
 go_enter func106,ntmps106
 go_wp2
 go_loop [3,10] (fun t i=>∃k:Nat,k<=s.size/\i=I Z k/\t=I Z (bJ (s.data.toList.take k))) (fun _ i=>s.size-(cY i).toNat)
 case atStart=>exact⟨0,by omega,rfl,by simp[bJ]⟩
 case round=>
  obtain⟨k,hk,rfl,rfl⟩:=hrel
  have h0:=UJ (s.data.toList.take k);have h1:=P3 (s.data.toList.take k)
  rw[q48 s k hk] at h1
  by_cases hlt:k<s.size
  .have HS:aK (bJ (s.data.toList.take (k+1))=_):=UK s k hlt;have c0:=xQ s[k]
   by_cases hp:k%2=0
   ·(have qm:((k:Int)%2==0)=true:=by simp;omega)
    go_wp2
    go_round
    case rel=>exact⟨k+1,by omega,by go_num,by rw[HS.out,aZ hp]⟩
    case measure=>simp[cY];omega
   ·(have qm:((k:Int)%2==0)=false:=by simp;omega)
    go_wp2
    go_round
    case rel=>exact⟨k+1,by omega,by go_num,by rw[HS.out,aT hp]⟩
    case measure=>simp[cY];omega
  .have HA:aK (bJ (s.data.toList.take k)=bJ s.data.toList):=q8k s k om
   go_wp2_with (go_at_call 165;refine(XW _ _ om om).mono ?_;rintro e w' ⟨rfl,rfl⟩)
   exact AH
theorem JE(s:ByteArray)(w:af)(hs:s.size<=140737488351232):
  az ah 104 #[.string s] w fun e w'=>e=.returned (I Z (65535-bk (bJ s.data.toList)))/\aq w.heap.size w w':=by
 have hk:=uT (bJ s.data.toList)
 go_enter func104,ntmps104
 go_wp2_with (go_at_call 106;refine(JD _ _ hs).mono ?_;rintro e w' ⟨rfl,hb⟩)
 go_ret
 exact⟨lQ rfl,hb⟩
theorem qaQ(l:List UInt8)(k:Nat)(h:k+1<l.length):num ((l.drop k).take 2)=bf l k:=by
 have e:(l.drop k).take 2=[l[k],l[k+1]]:=by
  grind [dJ]
 grind [num,bf,aC]
theorem qaR(l:List UInt8)(k:Nat)(h:k+3<l.length):num ((l.drop k).take 4)=bL l k:=by
 have e:(l.drop k).take 4=[l[k],l[k+1],l[k+2],l[k+3]]:=by
  grind [dJ]
 grind [num,bL,bf,aC]
def qaS(l:List UInt8)(h:l.length<=4):0<=num l/\num l<=4294967295:=by
 have e:∀c:UInt8,0<=(c.toNat:Int)/\(c.toNat:Int)<=255:=xQ
 match l,h with
 | [],_=>simp[num]
 | [a],_=>have:=e a;simp[num];omega
 | [a,b],_=>have:=e a;have:=e b;simp[num];omega
 | [a,b,c],_=>have:=e a;have:=e b;have:=e c;simp[num];omega
 | [a,b,c,d],_=>have:=e a;have:=e b;have:=e c;have:=e d;simp[num];omega
 | _::_::_::_::_::_,h=>simp at h
theorem QZ(s:ByteArray)(w:af)(hs:s.size<=4):
  az ah 105 #[.string s] w fun e w'=>e=.returned (I Z (num s.data.toList))/\aq w.heap.size w w':=by
 obtain⟨C,cap,G8,hcell⟩:=P5 s w
 go_enter func105,ntmps105
 go_wp2
 go_loop [3,9] (fun t i=>∃k:Nat,k<=s.size/\i=I Z k/\t=I Z (num (s.data.toList.take k))) (fun _ i=>s.size-(cY i).toNat)
 case atStart=>exact⟨0,by omega,rfl,by simp[num]⟩
 case round=>
  obtain⟨k,hk,rfl,rfl⟩:=hrel
  have ly:=qaS (s.data.toList.take k) (by rw[List.length_take];omega)
  by_cases hlt:k<s.size
  .have HS:aK (num (s.data.toList.take (k+1))=256*num (s.data.toList.take k)+(s[k].toNat:Int)):=by
    show _=_
    rw[uC s k hlt,XU]
   have c0:=xQ s[k]
   go_wp2
   go_round
   case rel=>exact⟨k+1,by omega,by go_num,by rw[HS.out]⟩
   case measure=>simp[cY];omega
  .have HA:aK (num (s.data.toList.take k)=num s.data.toList):=by
    show _=_
    rw[List.take_of_length_le (by simp;omega)]
   go_wp2
   exact AH
def Fg(v:Int)(w:af)(h0:0<=v)(h1:v<=9223372036854775807):az ah 103 #[I Z v,I Z 1] w fun e w'=>e=.returned (.string (bl [b8 v]))/\aq w.heap.size w w':=tO v 1 w h0 h1 om
def tY(v:Int)(w:af)(h0:0<=v)(h1:v<=9223372036854775807):az ah 103 #[I Z v,I Z 2] w fun e w'=>e=.returned (.string (bl (cr v)))/\aq w.heap.size w w':=tO v 2 w h0 h1 om
theorem Fh(v:Int)(w:af)(h0:0<=v)(h1:v<=9223372036854775807):az ah 103 #[I Z v,I Z 4] w fun e w'=>e=.returned (.string (bl (iM v)))/\aq w.heap.size w w':=by
 have:=tO v 4 w h0 h1 om
 grind [XN,bl,iM]
def AJ(h:p:=by
 show _=_
 rw[show(⟨#[69,0]⟩:ByteArray)=bl [69,0] from rfl,show(⟨#[0,0]⟩:ByteArray)=bl (cr 0) from rfl]
 simp only[kL]
 congr 1):p:=h
@[simp] theorem qjL(v:Int):(bl [b8 v]).size=1:=rfl
@[simp] theorem qjM(v:Int):(bl (cr v)).size=2:=rfl
@[simp] theorem qjN(v:Int):(bl (iM v)).size=4:=rfl
theorem Q0(k:bM)(n:Int)(w:af)(n0:0<=n)(n1:n<=1000000)(h0:0<=k.ae/\k.ae<=255)(h1:0<=k.src/\k.src<=4294967295)(h2:0<=k.dst/\k.dst<=4294967295)(h3:0<=k.aG/\k.aG<=255)(h4:0<=k.id/\k.id<=65535):
  az ah 102 #[I Z k.ae,I Z k.src,I Z k.dst,I Z k.aG,I Z k.id,I Z n] w fun e w'=>e=.returned (.string (bl (hd k (20+n) (65535-bk (bJ (hd k (20+n) 0))))))/\aq w.heap.size w w':=by
 have HT:aK ((⟨#[69,0]⟩:ByteArray)++bl (cr (20+n))++bl (cr k.id)++⟨#[0,0]⟩++bl [b8 k.aG]++bl [b8 k.ae]++⟨#[0,0]⟩++(bl (iM k.src)++bl (iM k.dst))=bl (hd k (20+n) 0)):=by
  exact AJ
 have HU:aK ((⟨#[69,0]⟩:ByteArray)++bl (cr (20+n))++bl (cr k.id)++⟨#[0,0]⟩++bl [b8 k.aG]++bl [b8 k.ae]++bl (cr (65535-bk (bJ (hd k (20+n) 0))))++(bl (iM k.src)++bl (iM k.dst))=bl (hd k (20+n) (65535-bk (bJ (hd k (20+n) 0))))):=by
  exact AJ
 refine gP ?_;intro hB;have hk:=uT (bJ (hd k (20+n) 0))
 have CC:∀w,az ah 104 #[.string (bl (hd k (20+n) 0))] w fun e w'=>e=.returned (I Z (65535-bk (bJ (hd k (20+n) 0))))/\aq w.heap.size w w':=by
  intro w
  have:=JE (bl (hd k (20+n) 0)) w (by rw[kY,Q2];omega)
  rw[zW] at this;exact this
 go_enter func102,ntmps102
 go_wp2_with (first|(go_at_call 103;go_fit (tY _ _ om om);refine wW ?_;clear hB;intro w' hb hB)|(go_at_call 103;go_fit (Fg _ _ om om);refine wW ?_;clear hB;intro w' hb hB)|(go_at_call 103;go_fit (Fh _ _ om om);refine wW ?_;clear hB;intro w' hb hB)|(go_at_call 104;rw[HT.out];go_fit (CC _);refine wW ?_;clear hB;intro w' hb hB))
 go_ret
 exact⟨Vt HU.out,hB⟩
theorem Q3(src dst ae n:Int)(w:af)(h0:0<=ae/\ae<=255)(h1:0<=src/\src<=4294967295)(h2:0<=dst/\dst<=4294967295)(h3:0<=n/\n<=140737488351232):
  az ah 107 #[I Z src,I Z dst,I Z ae,I Z n] w fun e w'=>e=.returned (.string (bl (ps src dst ae n)))/\aq w.heap.size w w':=by
 refine gP ?_;intro hB
 by_cases hp:ae=1
 .subst hp
  go_enter func107,ntmps107
  go_wp2
  go_ret
  exact⟨rfl,hB⟩
 ·(have qm:(ae==1)=false:=by simpa using hp)
  have HU:aK (bl (iM src)++bl (iM dst)++bl (cr ae)++bl (cr n)=bl (ps src dst ae n)):=by
   show _=_
   simp only[kL]
   unfold ps
   rw[aT hp]
  clear hp
  go_enter func107,ntmps107
  go_wp2_with (first|(go_at_call 103;go_fit (tY _ _ om om);refine wW ?_;clear hB;intro w' hb hB)|(go_at_call 103;go_fit (Fh _ _ om om);refine wW ?_;clear hB;intro w' hb hB))
  go_ret
  exact⟨Vt HU.out,hB⟩
theorem qaT(l:List UInt8)(e:Int)(h:m7 l=e)(he:e≠0):cj l=e:=by grind [m7,cj]
def qaU(l:List UInt8)(h:l.length<20):cj l=1:=qaT _ _ (by unfold m7;rw[aZ h]) om
theorem qaV(l:List UInt8)(h:20<=l.length)(h1:aC l 0≠69):cj l=1:=by grind [m7,aC,cj]
theorem qaW(l:List UInt8)(h:20<=l.length)(h1:aC l 0=69)(h2:bf l 2≠l.length):cj l=1:=by grind [m7,aC,bf,cj]
theorem qaX(l:List UInt8)(h:20<=l.length)(h1:aC l 0=69)(h2:bf l 2=l.length)(h3:bk (bJ (l.take 20))≠65535):cj l=3:=by grind [m7,aC,bf,bJ,cj]
theorem qaY(l:List UInt8)(h:20<=l.length)(h1:aC l 0=69)(h2:bf l 2=l.length)(h3:bk (bJ (l.take 20))=65535)(h4:aC l 1≠0\/aC l 6≠0\/aC l 7≠0):cj l=4:=by grind [m7,aC,bf,bJ,cj]
theorem qaZ(l:List UInt8)(h:20<=l.length)(h1:aC l 0=69)(h2:bf l 2=l.length)(h3:bk (bJ (l.take 20))=65535)(h4:aC l 1=0)(h5:aC l 6=0)(h6:aC l 7=0)(h7:aC l 8=0):cj l=12:=by grind [m7,bf,aC,bJ,cj]
theorem qbt(l:List UInt8)(h:20<=l.length)(h1:aC l 0=69)(h2:bf l 2=l.length)(h3:bk (bJ (l.take 20))=65535)(h4:aC l 1=0)(h5:aC l 6=0)(h6:aC l 7=0)(h7:aC l 8≠0)(h8:jE (aC l 9)=false):cj l=4:=by grind [m7,bf,aC,bJ,jE,cj]
theorem ye(l:List UInt8)(e:Int)(h:cj l=e)(he:e≠0):iw l=p0:=by grind [cj,iw]
theorem pI(s:ByteArray)(a b:Nat)(w:af)(h:b=a+2)(hs:b<=s.size):az ah 105 #[.string (s.extract a b)] w fun e w'=>e=.returned (I Z (bf s.data.toList a))/\aq w.heap.size w w':=by grind [QZ,wX,G9,qaQ,mf,bf]
theorem Fi(s:ByteArray)(a b:Nat)(w:af)(h:b=a+4)(hs:b<=s.size):az ah 105 #[.string (s.extract a b)] w fun e w'=>e=.returned (I Z (bL s.data.toList a))/\aq w.heap.size w w':=by grind [QZ,wX,G9,qaR,mf,bL]
theorem qbA(s:ByteArray)(w:af)(hs:20<=s.size):az ah 106 #[.string (s.extract 0 20)] w fun e w'=>e=.returned (I Z (bk (bJ (s.data.toList.take 20))))/\aq w.heap.size w w':=by grind [JD,wX,G9,bJ]
def AK(h:Below W.drew.heap.size W.drew w'):Below W.heap.size W w':=⟨h.os,h.tape,h.output,h.size,h.block⟩
def AL(h:p:=by
 have:=heap_alloc_new (w.alloc (.cells #[I Z 0,I Z 0,I Z 0,I Z 0,I Z 0,I Z 0,I Z 0,I Z 0,I Z 0,I Z 0,I Z 0,.string ⟨#[]⟩] 77)) (.cells #[I Z 0,I Z 0,I Z 0,I Z 0,I Z 0,I Z 0,I Z 0,I Z 0,I Z 0,I Z 0,I Z 0,.string ⟨#[]⟩] 77)
 simpa[ew] using this):p:=h
theorem qbB(s:ByteArray)(w:af)(hs:s.size<=140737488351232)(i3:s.size<20):
  az ah 50 #[.string s] w fun e w'=>e=.returned (.tuple #[pv (iw s.data.toList),I Z (cj s.data.toList)])/\aq w.heap.size w w':=by
 refine m0d ?_;intro jP T0
 have T4:ew ((w.alloc (.cells #[I Z 0,I Z 0,I Z 0,I Z 0,I Z 0,I Z 0,I Z 0,I Z 0,I Z 0,I Z 0,I Z 0,.string ⟨#[]⟩] 77)).alloc (.cells #[I Z 0,I Z 0,I Z 0,I Z 0,I Z 0,I Z 0,I Z 0,I Z 0,I Z 0,I Z 0,I Z 0,.string ⟨#[]⟩] 77)) (w.heap.size+1) #[I Z 0,I Z 0,I Z 0,I Z 0,I Z 0,I Z 0,I Z 0,I Z 0,I Z 0,I Z 0,I Z 0,.string ⟨#[]⟩]:=by
  exact AL
 refine m0k ?_;intro hB;have c0:=T0.cell;have c4:=T4.cell;have f0:=T0.free;have hb:=qaU s.data.toList om;rw[ye _ 1 hb om,hb];(have z1:(s.size:Int)<20:=by omega);clear hb
 go_enter func50,ntmps50
 go_wp2
 refine aL (v:=.tuple #[pv p0,I Z 1]) (by simp[eQ,results50,go_sem,pv,p0];rfl) rfl ⟨rfl,?_⟩
 exact hB
def vk(h:p:=by
 clear BO B2 B3 B4 B5 B6 PB
 go_enter func50,ntmps50
 go_wp2_with (first|(go_at_call 105;go_fit (N2 _);refine Ex ?_;intro w' hb T0 T4 c0 c4 f0 hB)|(go_at_call 106;go_fit (SH _);refine Ex ?_;clear T0 T4 hB;intro w' hb T0 T4 c0 c4 f0 hB))
 refine bodyPost_ret (v:=.tuple #[pv p0,I Z 4]) (by simp[results,results50,go_sem,pv,p0,c0];rfl) rfl ⟨rfl,?_⟩
 iterate 12 (refine Below.setCell ?_ (by exact Nat.le_refl _) _)
 exact hB):p:=h
theorem qbC(s:ByteArray)(w:af)(hs:s.size<=140737488351232)(i3:20<=s.size)(qs:¬(aC s.data.toList 0=69/\bf s.data.toList 2=s.data.toList.length/\bk (bJ (s.data.toList.take 20))=65535/\aC s.data.toList 1=0/\aC s.data.toList 6=0/\aC s.data.toList 7=0/\aC s.data.toList 8≠0)):
  az ah 50 #[.string s] w fun e w'=>e=.returned (.tuple #[pv (iw s.data.toList),I Z (cj s.data.toList)])/\aq w.heap.size w w':=by
 refine m0d ?_;intro jP T0
 have T4:ew ((w.alloc (.cells #[I Z 0,I Z 0,I Z 0,I Z 0,I Z 0,I Z 0,I Z 0,I Z 0,I Z 0,I Z 0,I Z 0,.string ⟨#[]⟩] 77)).alloc (.cells #[I Z 0,I Z 0,I Z 0,I Z 0,I Z 0,I Z 0,I Z 0,I Z 0,I Z 0,I Z 0,I Z 0,.string ⟨#[]⟩] 77)) (w.heap.size+1) #[I Z 0,I Z 0,I Z 0,I Z 0,I Z 0,I Z 0,I Z 0,I Z 0,I Z 0,I Z 0,I Z 0,.string ⟨#[]⟩]:=by
  exact AL
 refine m0k ?_;intro hB;have c0:=T0.cell;have c4:=T4.cell;have f0:=T0.free;(have N2:=fun w=>pI s 2 4 w rfl om);refine m2k ?_;intro SH g0 g1 g6 g7 g8;(have B2:=fun a b=>qaV s.data.toList a b);(have B3:=fun a b c=>qaW s.data.toList a b c);(have B4:=fun a b c d=>qaX s.data.toList a b c d);(have B5:=fun a b c d e=>qaY s.data.toList a b c d e);(have B6:=fun a b c d e f g h=>qaZ s.data.toList a b c d e f g h);(have BO:20<=s.data.toList.length->aC s.data.toList 0=69->bf s.data.toList 2=s.data.toList.length->bk (bJ (s.data.toList.take 20))=65535->aC s.data.toList 1=0->aC s.data.toList 6=0->aC s.data.toList 7=0->aC s.data.toList 8≠0->False:=fun _ b c d e f g h=>qs ⟨b,c,d,e,f,g,h⟩);clear qs;(have PB:=fun e h he=>ye s.data.toList e h he);(have z20:(20:Int)<=(s.size:Int):=by omega);(have zz:∀k:Int,k<20->k<(s.size:Int):=fun k h=>by omega);have z1:=zz 1 om;(have z4:(4:Int)<=(s.size:Int):=by omega);have z6:=zz 6 om;have z7:=zz 7 om;have z8:=zz 8 om;clear zz
 generalize bk (bJ (s.data.toList.take 20))=sh at *
 generalize aC s.data.toList 0=x0 at *
 generalize aC s.data.toList 1=x1 at *
 generalize aC s.data.toList 6=x6 at *
 generalize aC s.data.toList 7=x7 at *
 generalize aC s.data.toList 8=x8 at *
 generalize hx2:bf s.data.toList 2=x2 at *
 clear hx2
 rw[jP] at B2 B3 B4 B5 B6 BO
 by_cases e0:x0=69
 rotate_left
 ·(have d0:(x0 != 69)=true:=by simpa using e0);rw[PB 1 (B2 i3 (by exact e0)) om,show cj s.data.toList=1 from B2 i3 (by exact e0)];clear BO B2 B3 B4 B5 B6 PB
  go_enter func50,ntmps50
  go_wp2_with (first|(go_at_call 105;go_fit (N2 _);refine Ex ?_;clear T0 T4 hB;intro w' hb T0 T4 c0 c4 f0 hB)|(go_at_call 106;go_fit (SH _);refine Ex ?_;clear T0 T4 hB;intro w' hb T0 T4 c0 c4 f0 hB))
  refine aL (v:=.tuple #[pv p0,I Z 1]) (by simp[eQ,results50,go_sem,pv,p0];rfl) rfl ⟨rfl,?_⟩
  exact hB
 (have d0:(x0 != 69)=false:=by simpa using e0);have h0:aK (x0=69):=e0;clear e0
 by_cases e1:x2=(s.size:Int)
 rotate_left
 ·(have d1:(x2 != (s.size:Int))=true:=by simpa using e1);rw[PB 1 (B3 i3 h0.out (by exact e1)) om,show cj s.data.toList=1 from B3 i3 h0.out (by exact e1)];clear BO B2 B3 B4 B5 B6 PB
  go_enter func50,ntmps50
  go_wp2_with (first|(go_at_call 105;go_fit (N2 _);refine Ex ?_;clear T0 T4 hB;intro w' hb T0 T4 c0 c4 f0 hB)|(go_at_call 106;go_fit (SH _);refine Ex ?_;clear T0 T4 hB;intro w' hb T0 T4 c0 c4 f0 hB))
  refine aL (v:=.tuple #[pv p0,I Z 1]) (by simp[eQ,results50,go_sem,pv,p0,c0];rfl) rfl ⟨rfl,?_⟩
  iterate 12 (refine fy ?_ (by exact au _) _)
  exact hB
 (have d1:(x2 != (s.size:Int))=false:=by simpa using e1);have h1:aK (x2=(s.size:Int)):=e1;clear e1
 by_cases e2:sh=65535
 rotate_left
 ·(have d2:(sh != 65535)=true:=by simpa using e2);rw[PB 3 (B4 i3 h0.out h1.out (by exact e2)) om,show cj s.data.toList=3 from B4 i3 h0.out h1.out (by exact e2)];clear BO B2 B3 B4 B5 B6 PB
  go_enter func50,ntmps50
  go_wp2_with (first|(go_at_call 105;go_fit (N2 _);refine Ex ?_;clear T0 T4 hB;intro w' hb T0 T4 c0 c4 f0 hB)|(go_at_call 106;go_fit (SH _);refine Ex ?_;clear T0 T4 hB;intro w' hb T0 T4 c0 c4 f0 hB))
  refine aL (v:=.tuple #[pv p0,I Z 3]) (by simp[eQ,results50,go_sem,pv,p0,c0];rfl) rfl ⟨rfl,?_⟩
  iterate 12 (refine fy ?_ (by exact au _) _)
  exact hB
 (have d2:(sh != 65535)=false:=by simpa using e2);have h2:aK (sh=65535):=e2;clear e2
 by_cases e3:x1=0
 rotate_left
 ·(have d3:(x1 != 0)=true:=by simpa using e3);rw[PB 4 (B5 i3 h0.out h1.out h2.out (.inl (by exact e3))) om,show cj s.data.toList=4 from B5 i3 h0.out h1.out h2.out (.inl (by exact e3))]
  exact vk
 (have d3:(x1 != 0)=false:=by simpa using e3);have h3:aK (x1=0):=e3;clear e3
 by_cases e4:x6=0
 rotate_left
 ·(have d4:(x6 != 0)=true:=by simpa using e4);rw[PB 4 (B5 i3 h0.out h1.out h2.out (.inr (.inl (by exact e4)))) om,show cj s.data.toList=4 from B5 i3 h0.out h1.out h2.out (.inr (.inl (by exact e4)))]
  exact vk
 (have d4:(x6 != 0)=false:=by simpa using e4);have h4:aK (x6=0):=e4;clear e4
 by_cases e5:x7=0
 rotate_left
 ·(have d5:(x7 != 0)=true:=by simpa using e5);rw[PB 4 (B5 i3 h0.out h1.out h2.out (.inr (.inr (by exact e5)))) om,show cj s.data.toList=4 from B5 i3 h0.out h1.out h2.out (.inr (.inr (by exact e5)))]
  exact vk
 (have d5:(x7 != 0)=false:=by simpa using e5);have h5:aK (x7=0):=e5;clear e5
 by_cases e6:x8=0
 ·(have d6:(x8==0)=true:=by simpa using e6);have h6:aK (x8=0):=e6;clear e6;rw[PB 12 (B6 i3 h0.out h1.out h2.out h3.out h4.out h5.out h6.out) om,show cj s.data.toList=12 from B6 i3 h0.out h1.out h2.out h3.out h4.out h5.out h6.out];clear BO B2 B3 B4 B5 B6 PB
  go_enter func50,ntmps50
  go_wp2_with (first|(go_at_call 105;go_fit (N2 _);refine Ex ?_;clear T0 T4 hB;intro w' hb T0 T4 c0 c4 f0 hB)|(go_at_call 106;go_fit (SH _);refine Ex ?_;clear T0 T4 hB;intro w' hb T0 T4 c0 c4 f0 hB))
  refine aL (v:=.tuple #[pv p0,I Z 12]) (by simp[eQ,results50,go_sem,pv,p0,c0];rfl) rfl ⟨rfl,?_⟩
  iterate 12 (refine fy ?_ (by exact au _) _)
  exact hB
 exact(BO i3 h0.out h1.out h2.out h3.out h4.out h5.out e6).elim
end
theorem qwn(l:List UInt8)(k:Nat)(h:k+1<l.length):cr (bf l k)=(l.drop k).take 2:=by
 have e:(l.drop k).take 2=[l[k],l[k+1]]:=by
  grind [dJ]
 rw[e,←q9y]
 grind [bf,aC]
theorem qu2(l:List UInt8)(k:Nat)(h:k+3<l.length):iM (bL l k)=(l.drop k).take 4:=by
 have b2:=Ej l (k+2);have e1:cr (bL l k/65536)=cr (bf l k):=q3g _ _ (by unfold bL;omega);have e2:cr (bL l k)=cr (bf l (k+2)):=q3g _ _ (by unfold bL;omega)
 unfold iM
 rw[e1,e2,qwn l k om,qwn l (k+2) om,show(4:Nat)=2+2 from rfl,List.take_add,List.drop_drop]
theorem q82(l:List UInt8)(ae:Int)(h:20<=l.length):ps (bL l 12) (bL l 16) ae ((l.length:Int)-20)++l.drop 20=dY l ae:=by
 unfold ps dY
 by_cases hp:ae=1
 .grind
 .rw[aT hp,aT hp,qu2 l 12 om,qu2 l 16 om,show(8:Nat)=4+4 from rfl,List.take_add,List.drop_drop]
  simp
theorem yf(l:List UInt8)(e:Int)(H:o9 l)(h:lz l (aC l 9)=e)(he:e≠0):cj l=e:=by grind [cj,qw6,lz,aC]
theorem JG(l:List UInt8)(H:o9 l)(h:lz l (aC l 9)=0):cj l=good (ba l):=by grind [cj,qw6,lz,aC,good,ba]
def JI(l:List UInt8)(H:o9 l)(h:(l.length:Int)-20<gH (aC l 9)):cj l=1:=yf l 1 H (by unfold lz;rw[aZ h]) om
def JJ(l:List UInt8)(H:o9 l)(h:gH (aC l 9)<=(l.length:Int)-20)(h1:bk (bJ (dY l (aC l 9)))≠65535):cj l=3:=yf l 3 H (by unfold lz;rw[aT om,aZ h1]) om
def qbD(l:List UInt8)(H:o9 l)(h:gH (aC l 9)<=(l.length:Int)-20)(h1:bk (bJ (dY l (aC l 9)))=65535)(h2:aC l 9=17)(h3:aC l 26=0)(h4:aC l 27=0):cj l=3:=
 yf l 3 H (by unfold lz;rw[aT om,aT om,aZ ⟨h2,by rw[show bf l 26=aC l 26*256+aC l 27 from rfl];omega⟩]) om
theorem Q4(l:List UInt8)(H:o9 l)(h:gH (aC l 9)<=(l.length:Int)-20)(h1:bk (bJ (dY l (aC l 9)))=65535)(h2:aC l 9=1)(h3:(aC l 20≠0/\aC l 20≠8)\/aC l 21≠0):cj l=4:=by
 refine yf l 4 H ?_ om
 grind [lz,aC,gH,bJ,dY,cj]
theorem qbE(l:List UInt8)(H:o9 l)(h:gH (aC l 9)<=(l.length:Int)-20)(h1:bk (bJ (dY l (aC l 9)))=65535)(h2:aC l 9=1)(h3:aC l 20=0\/aC l 20=8)(h4:aC l 21=0):cj l=good (ba l):=by grind [JG,lz,gH,aC,bJ,dY,cj,good,ba]
theorem qbF(l:List UInt8)(H:o9 l)(h:gH (aC l 9)<=(l.length:Int)-20)(h1:bk (bJ (dY l (aC l 9)))=65535)(h2:aC l 9=17)(h3:¬(aC l 26=0/\aC l 27=0))(h4:bf l 24≠(l.length:Int)-20):cj l=1:=by
 refine yf l 1 H ?_ om
 grind [bf,aC,lz,gH,bJ,dY,cj]
theorem qbG(l:List UInt8)(H:o9 l)(h:gH (aC l 9)<=(l.length:Int)-20)(h1:bk (bJ (dY l (aC l 9)))=65535)(h2:aC l 9=17)(h3:¬(aC l 26=0/\aC l 27=0))(h4:bf l 24=(l.length:Int)-20):cj l=good (ba l):=by grind [JG,bf,aC,nE,lz,gH,bJ,dY,cj,good,ba]
theorem Fj(l:List UInt8)(H:o9 l)(h:gH (aC l 9)<=(l.length:Int)-20)(h1:bk (bJ (dY l (aC l 9)))=65535)(h2:aC l 9=6)(h3:aC l 32≠80\/63<aC l 33\/aC l 38≠0\/aC l 39≠0):cj l=4:=by
 refine yf l 4 H ?_ om
 grind [bf,aC,lz,gH,bJ,dY,cj]
theorem qbH(l:List UInt8)(H:o9 l)(h:gH (aC l 9)<=(l.length:Int)-20)(h1:bk (bJ (dY l (aC l 9)))=65535)(h2:aC l 9=6)(h3:aC l 32=80)(h4:aC l 33<=63)(h5:aC l 38=0)(h6:aC l 39=0):cj l=good (ba l):=by grind [JG,bf,aC,lz,gH,bJ,dY,cj,good,ba]
section
open Go.ChangeShapes Go.WideShapes Go.ChangeAt
def m8(n hi:Int):Bool:=decide (0<=n/\n<=hi)
def vo(h:p:=by
 go_enter func166,ntmps166
 go_wp2
 go_ret
 exact⟨JK HG.out,rfl⟩):p:=h
def AO(n hi:Int)(w:af):az ah 166 #[I Z n,I Z hi] w fun e w'=>e=.returned (.bool (m8 n hi))/\w'=w:=by
 by_cases h0:0<=n
 .by_cases h1:n<=hi
  ·(have HG:aK (true=m8 n hi):=by show _=_;unfold m8;rw[eq_comm,decide_eq_true_eq];exact⟨h0,h1⟩)
   exact vo
  ·(have HG:aK (false=m8 n hi):=by show _=_;unfold m8;rw[eq_comm,decide_eq_false_iff_not];omega)
   exact vo
 ·(have HG:aK (false=m8 n hi):=by show _=_;unfold m8;rw[eq_comm,decide_eq_false_iff_not];omega)
  exact vo
theorem jQ(n hi:Int):m8 n hi=true↔0<=n/\n<=hi:=by grind [m8]
def qbI(src dst seq bo aj ai id br aG flags:Int)(t0:-9223372036854775808<=aG)(t1:aG<=9223372036854775807)(hr:¬(0<=src/\src<=4294967295/\0<=dst/\dst<=4294967295/\0<=seq/\seq<=4294967295/\0<=bo/\bo<=4294967295/\0<=aj/\aj<=65535/\0<=ai/\ai<=65535/\0<=id/\id<=65535/\0<=br/\br<=65535/\1<=aG/\aG<=255/\0<=flags/\flags<=63))(r0:m8 src 4294967295=true)(r1:m8 dst 4294967295=true)(r2:m8 seq 4294967295=true)(r3:m8 bo 4294967295=true)(r4:m8 aj 65535=true)(r5:m8 ai 65535=true)(r6:m8 id 65535=true)(r7:m8 br 65535=true)(r8:m8 (wrap64 (aG-1)) 254=true)(r9':(!m8 flags 63)=false):False:=by
 (have r9:m8 flags 63=true:=by simpa using r9');have a0:=(jQ _ _).1 r0;have a1:=(jQ _ _).1 r1;have a2:=(jQ _ _).1 r2;have a3:=(jQ _ _).1 r3;have a4:=(jQ _ _).1 r4;have a5:=(jQ _ _).1 r5;have a6:=(jQ _ _).1 r6;have a7:=(jQ _ _).1 r7;have a9:=(jQ _ _).1 r9;have a8:=(jQ _ _).1 r8
 unfold wrap64 at a8
 omega
def JL{B:Nat}{v:af}(h:aq B v w)(n:Nat):aq B v (w.drewN n):=h.trans ⟨rfl,rfl,rfl,by simp,by simp⟩
theorem qbJ(k:bM)(h:jE k.ae=false):4=good k:=by grind [jE,good]
theorem JN(k:bM)(h:jE k.ae=true)(h1:¬(0<=k.src/\k.src<=4294967295/\0<=k.dst/\k.dst<=4294967295/\0<=k.seq/\k.seq<=4294967295/\0<=k.bo/\k.bo<=4294967295/\
  0<=k.aj/\k.aj<=65535/\0<=k.ai/\k.ai<=65535/\0<=k.id/\k.id<=65535/\0<=k.br/\k.br<=65535/\1<=k.aG/\k.aG<=255/\0<=k.flags/\k.flags<=63)):2=good k:=by
 have:Ey k=false:=by
  grind [Ey,yg]
 grind [jE,good]
theorem AQ(k:bM)(h:jE k.ae=true)(h1:0<=k.src/\k.src<=4294967295/\0<=k.dst/\k.dst<=4294967295/\0<=k.seq/\k.seq<=4294967295/\0<=k.bo/\k.bo<=4294967295/\
  0<=k.aj/\k.aj<=65535/\0<=k.ai/\k.ai<=65535/\0<=k.id/\k.id<=65535/\0<=k.br/\k.br<=65535/\1<=k.aG/\k.aG<=255/\0<=k.flags/\k.flags<=63):good k=if 64<k.body.size then 5 else if yh k=false then 1 else 0:=by grind [good,yg,jE,yh]
theorem Q5(k:bM)(h:jE k.ae=true)(h1:0<=k.src/\k.src<=4294967295/\0<=k.dst/\k.dst<=4294967295/\0<=k.seq/\k.seq<=4294967295/\0<=k.bo/\k.bo<=4294967295/\
  0<=k.aj/\k.aj<=65535/\0<=k.ai/\k.ai<=65535/\0<=k.id/\k.id<=65535/\0<=k.br/\k.br<=65535/\1<=k.aG/\k.aG<=255/\0<=k.flags/\k.flags<=63)(h2:k.body.size<=64)(h3:¬((k.ae=1->((k.flags=8/\k.ai=0)\/(k.flags=0/\k.aj=0))/\0<=k.seq/\k.seq<=65535/\k.bo=0/\k.br=0)/\(k.ae=17->k.flags=0/\k.seq=0/\k.bo=0/\k.br=0))):1=good k:=by grind [yh,Ot,AQ,jE,good]
theorem JQ(k:bM)(h:jE k.ae=true)(h1:0<=k.src/\k.src<=4294967295/\0<=k.dst/\k.dst<=4294967295/\0<=k.seq/\k.seq<=4294967295/\0<=k.bo/\k.bo<=4294967295/\
  0<=k.aj/\k.aj<=65535/\0<=k.ai/\k.ai<=65535/\0<=k.id/\k.id<=65535/\0<=k.br/\k.br<=65535/\1<=k.aG/\k.aG<=255/\0<=k.flags/\k.flags<=63)(h2:k.body.size<=64)(h3:((k.ae=1->((k.flags=8/\k.ai=0)\/(k.flags=0/\k.aj=0))/\0<=k.seq/\k.seq<=65535/\k.bo=0/\k.br=0)/\(k.ae=17->k.flags=0/\k.seq=0/\k.bo=0/\k.br=0))):0=good k:=by grind [AQ,Ot,jE,good]
def Q6(ae src aj dst ai aG id flags seq bo br:Int)(body:ByteArray)(w:af)(hsz:body.size<=140737488351232)(ht:-9223372036854775808<=aG/\aG<=9223372036854775807)(h1:ae≠1)(h6:ae≠6)(qg:ae≠17):az ah 108 #[.agg #[I Z ae,I Z src,I Z aj,I Z dst,I Z ai,I Z aG,I Z id,I Z flags,I Z seq,I Z bo,I Z br,.string body]] w fun e w'=>e=.returned (I Z (good ⟨ae,src,aj,dst,ai,aG,id,flags,seq,bo,br,body⟩))/\aq w.heap.size w w':=by
 refine JU ?_;intro jR hB;(have e1:(ae != 1)=true:=by simpa using h1);(have e6:(ae != 6)=true:=by simpa using h6);(have iD:(ae != 17)=true:=by simpa using qg);(have HG:aK (4=good ⟨ae,src,aj,dst,ai,aG,id,flags,seq,bo,br,body⟩):=by show _=_;exact qbJ ⟨ae,src,aj,dst,ai,aG,id,flags,seq,bo,br,body⟩ (by simp[jE,h1,h6,qg]))
 go_enter func108,ntmps108
 go_wp2_with (go_at_call 166;refine(AO _ _ _).mono ?_;rintro e w' ⟨rfl,rfl⟩)
 go_ret
 exact⟨lQ HG.out,hB⟩
def vp(h:p:=by
 (have R:=fun r0 r1 r2 r3 r4 r5 r6 r7 r8 r9=>qbI src dst seq bo aj ai id br aG flags ht.1 ht.2 hr r0 r1 r2 r3 r4 r5 r6 r7 r8 r9)
 go_enter func108,ntmps108
 go_wp2_with (go_at_call 166;refine(AO _ _ _).mono ?_;rintro e w' ⟨rfl,rfl⟩)
 all_goals first| (go_ret;exact⟨lQ HG.out,hB⟩)| (exfalso;apply R<;>assumption)):p:=h
def qbK(ae src aj dst ai aG id flags seq bo br:Int)(body:ByteArray)(w:af)(hsz:body.size<=140737488351232)(ht:-9223372036854775808<=aG/\aG<=9223372036854775807)(hp:ae=1)(hr:¬(0<=src/\src<=4294967295/\0<=dst/\dst<=4294967295/\0<=seq/\seq<=4294967295/\0<=bo/\bo<=4294967295/\0<=aj/\aj<=65535/\0<=ai/\ai<=65535/\0<=id/\id<=65535/\0<=br/\br<=65535/\1<=aG/\aG<=255/\0<=flags/\flags<=63)):az ah 108 #[.agg #[I Z ae,I Z src,I Z aj,I Z dst,I Z ai,I Z aG,I Z id,I Z flags,I Z seq,I Z bo,I Z br,.string body]] w fun e w'=>e=.returned (I Z (good ⟨ae,src,aj,dst,ai,aG,id,flags,seq,bo,br,body⟩))/\aq w.heap.size w w':=by
 refine JU ?_;intro jR hB
 subst hp
 have HG:aK (2=good ⟨1,src,aj,dst,ai,aG,id,flags,seq,bo,br,body⟩):=JN _ rfl hr
 exact vp
def qbL(ae src aj dst ai aG id flags seq bo br:Int)(body:ByteArray)(w:af)(hsz:body.size<=140737488351232)(ht:-9223372036854775808<=aG/\aG<=9223372036854775807)(hp:ae=6)(hr:¬(0<=src/\src<=4294967295/\0<=dst/\dst<=4294967295/\0<=seq/\seq<=4294967295/\0<=bo/\bo<=4294967295/\0<=aj/\aj<=65535/\0<=ai/\ai<=65535/\0<=id/\id<=65535/\0<=br/\br<=65535/\1<=aG/\aG<=255/\0<=flags/\flags<=63)):az ah 108 #[.agg #[I Z ae,I Z src,I Z aj,I Z dst,I Z ai,I Z aG,I Z id,I Z flags,I Z seq,I Z bo,I Z br,.string body]] w fun e w'=>e=.returned (I Z (good ⟨ae,src,aj,dst,ai,aG,id,flags,seq,bo,br,body⟩))/\aq w.heap.size w w':=by
 refine JU ?_;intro jR hB
 subst hp
 have HG:aK (2=good ⟨6,src,aj,dst,ai,aG,id,flags,seq,bo,br,body⟩):=JN _ rfl hr
 exact vp
def qbM(ae src aj dst ai aG id flags seq bo br:Int)(body:ByteArray)(w:af)(hsz:body.size<=140737488351232)(ht:-9223372036854775808<=aG/\aG<=9223372036854775807)(hp:ae=17)(hr:¬(0<=src/\src<=4294967295/\0<=dst/\dst<=4294967295/\0<=seq/\seq<=4294967295/\0<=bo/\bo<=4294967295/\0<=aj/\aj<=65535/\0<=ai/\ai<=65535/\0<=id/\id<=65535/\0<=br/\br<=65535/\1<=aG/\aG<=255/\0<=flags/\flags<=63)):az ah 108 #[.agg #[I Z ae,I Z src,I Z aj,I Z dst,I Z ai,I Z aG,I Z id,I Z flags,I Z seq,I Z bo,I Z br,.string body]] w fun e w'=>e=.returned (I Z (good ⟨ae,src,aj,dst,ai,aG,id,flags,seq,bo,br,body⟩))/\aq w.heap.size w w':=by
 refine JU ?_;intro jR hB
 subst hp
 have HG:aK (2=good ⟨17,src,aj,dst,ai,aG,id,flags,seq,bo,br,body⟩):=JN _ rfl hr
 exact vp
def AU(h:p:=by
 clear hx
 go_quiet (fail)
 go_wp2
 all_goals first| (go_ret;exact⟨lQ (G1 om om),JL hB nq⟩)| (go_ret;exact⟨lQ (G0 om om),JL hB nq⟩)):p:=h
def vq(h:p:=by
 go_quiet (fail)
 go_wp2
 all_goals first| (go_ret;exact⟨lQ (G1 om om),JL hB nq⟩)):p:=h
def qbN(ae src aj dst ai aG id flags seq bo br:Int)(body:ByteArray)(w:af)(hsz:body.size<=140737488351232)(ht:-9223372036854775808<=aG/\aG<=9223372036854775807)(hp:ae=1)(hr:0<=src/\src<=4294967295/\0<=dst/\dst<=4294967295/\0<=seq/\seq<=4294967295/\0<=bo/\bo<=4294967295/\0<=aj/\aj<=65535/\0<=ai/\ai<=65535/\0<=id/\id<=65535/\0<=br/\br<=65535/\1<=aG/\aG<=255/\0<=flags/\flags<=63):az ah 108 #[.agg #[I Z ae,I Z src,I Z aj,I Z dst,I Z ai,I Z aG,I Z id,I Z flags,I Z seq,I Z bo,I Z br,.string body]] w fun e w'=>e=.returned (I Z (good ⟨ae,src,aj,dst,ai,aG,id,flags,seq,bo,br,body⟩))/\aq w.heap.size w w':=by
 refine JU ?_;intro jR hB
 subst hp
 refine m0i ?_;intro hw r0 r1 r2 r3 r4 r5 r6 r7 r8 r9;obtain⟨q0,q1,q2,q3,q4,q5,q6,q7,q8,q9,yi,yj,uC,uB,vr,uH,yl,vt,uI,vu⟩:=hr;(have G5:64<body.size->5=good ⟨1,src,aj,dst,ai,aG,id,flags,seq,bo,br,body⟩:=fun hb=>by rw[AQ ⟨1,src,aj,dst,ai,aG,id,flags,seq,bo,br,body⟩ rfl ⟨q0,q1,q2,q3,q4,q5,q6,q7,q8,q9,yi,yj,uC,uB,vr,uH,yl,vt,uI,vu⟩,aZ hb]);(have G1:body.size<=64->(0<bo+br\/65535<seq\/¬((flags=8/\ai=0)\/(flags=0/\aj=0)))->1=good ⟨1,src,aj,dst,ai,aG,id,flags,seq,bo,br,body⟩:=fun hb h=>Q5 ⟨1,src,aj,dst,ai,aG,id,flags,seq,bo,br,body⟩ rfl ⟨q0,q1,q2,q3,q4,q5,q6,q7,q8,q9,yi,yj,uC,uB,vr,uH,yl,vt,uI,vu⟩ hb (by intro x;have y:=x.1 rfl;simp only[] at y;omega));(have G0:body.size<=64->(bo+br<=0/\seq<=65535/\((flags=8/\ai=0)\/(flags=0/\aj=0)))->0=good ⟨1,src,aj,dst,ai,aG,id,flags,seq,bo,br,body⟩:=fun hb h=>JQ ⟨1,src,aj,dst,ai,aG,id,flags,seq,bo,br,body⟩ rfl ⟨q0,q1,q2,q3,q4,q5,q6,q7,q8,q9,yi,yj,uC,uB,vr,uH,yl,vt,uI,vu⟩ hb ⟨fun _=>by simp only[];omega,fun x=>absurd x zm⟩)
 go_enter func108,ntmps108
 go_wp2_with (go_at_call 166;refine(AO _ _ _).mono ?_;rintro e w' ⟨rfl,rfl⟩)
 all_goals first
  | (go_ret;exact⟨lQ (G5 om),hB⟩)
  | (go_ret;exact⟨lQ (G1 om om),hB⟩)
  | skip
 by_cases h8:flags=8
 ·(have e8:(flags==8)=true:=by simpa using h8);(have e0:(flags==0)=false:=by simp;omega);(have l8:8<=flags/\flags<=8:=by omega);clear h8
  by_cases hx:ai=0
  ·(have ex:(ai==0)=true:=by simpa using hx);(have lx:ai<=0:=by omega)
   exact AU
  ·(have ex:(ai==0)=false:=by simpa using hx)
   exact vq
 (have e8:(flags==8)=false:=by simpa using h8)
 by_cases h0:flags=0
 ·(have e0:(flags==0)=true:=by simpa using h0);(have l0:flags<=0:=by omega);clear h0
  by_cases hx:aj=0
  ·(have ex:(aj==0)=true:=by simpa using hx);(have lx:aj<=0:=by omega)
   exact AU
  ·(have ex:(aj==0)=false:=by simpa using hx)
   exact vq
 (have e0:(flags==0)=false:=by simpa using h0)
 exact vq
def qbO(ae src aj dst ai aG id flags seq bo br:Int)(body:ByteArray)(w:af)(hsz:body.size<=140737488351232)(ht:-9223372036854775808<=aG/\aG<=9223372036854775807)(hp:ae=6)(hr:0<=src/\src<=4294967295/\0<=dst/\dst<=4294967295/\0<=seq/\seq<=4294967295/\0<=bo/\bo<=4294967295/\0<=aj/\aj<=65535/\0<=ai/\ai<=65535/\0<=id/\id<=65535/\0<=br/\br<=65535/\1<=aG/\aG<=255/\0<=flags/\flags<=63):az ah 108 #[.agg #[I Z ae,I Z src,I Z aj,I Z dst,I Z ai,I Z aG,I Z id,I Z flags,I Z seq,I Z bo,I Z br,.string body]] w fun e w'=>e=.returned (I Z (good ⟨ae,src,aj,dst,ai,aG,id,flags,seq,bo,br,body⟩))/\aq w.heap.size w w':=by
 refine JU ?_;intro jR hB
 subst hp
 refine m0i ?_;intro hw r0 r1 r2 r3 r4 r5 r6 r7 r8 r9;obtain⟨q0,q1,q2,q3,q4,q5,q6,q7,q8,q9,yi,yj,uC,uB,vr,uH,yl,vt,uI,vu⟩:=hr;(have G5:64<body.size->5=good ⟨6,src,aj,dst,ai,aG,id,flags,seq,bo,br,body⟩:=fun hb=>by rw[AQ ⟨6,src,aj,dst,ai,aG,id,flags,seq,bo,br,body⟩ rfl ⟨q0,q1,q2,q3,q4,q5,q6,q7,q8,q9,yi,yj,uC,uB,vr,uH,yl,vt,uI,vu⟩,aZ hb]);(have G0:body.size<=64->True->0=good ⟨6,src,aj,dst,ai,aG,id,flags,seq,bo,br,body⟩:=fun hb _=>JQ ⟨6,src,aj,dst,ai,aG,id,flags,seq,bo,br,body⟩ rfl ⟨q0,q1,q2,q3,q4,q5,q6,q7,q8,q9,yi,yj,uC,uB,vr,uH,yl,vt,uI,vu⟩ hb zm)
 go_enter func108,ntmps108
 go_wp2_with (go_at_call 166;refine(AO _ _ _).mono ?_;rintro e w' ⟨rfl,rfl⟩)
 all_goals first
  | (go_ret;exact⟨lQ (G5 om),hB⟩)
  | (go_ret;exact⟨lQ (G0 om trivial),hB⟩)
def qbP(ae src aj dst ai aG id flags seq bo br:Int)(body:ByteArray)(w:af)(hsz:body.size<=140737488351232)(ht:-9223372036854775808<=aG/\aG<=9223372036854775807)(hp:ae=17)(hr:0<=src/\src<=4294967295/\0<=dst/\dst<=4294967295/\0<=seq/\seq<=4294967295/\0<=bo/\bo<=4294967295/\0<=aj/\aj<=65535/\0<=ai/\ai<=65535/\0<=id/\id<=65535/\0<=br/\br<=65535/\1<=aG/\aG<=255/\0<=flags/\flags<=63):az ah 108 #[.agg #[I Z ae,I Z src,I Z aj,I Z dst,I Z ai,I Z aG,I Z id,I Z flags,I Z seq,I Z bo,I Z br,.string body]] w fun e w'=>e=.returned (I Z (good ⟨ae,src,aj,dst,ai,aG,id,flags,seq,bo,br,body⟩))/\aq w.heap.size w w':=by
 refine JU ?_;intro jR hB
 subst hp
 refine m0i ?_;intro hw r0 r1 r2 r3 r4 r5 r6 r7 r8 r9;obtain⟨q0,q1,q2,q3,q4,q5,q6,q7,q8,q9,yi,yj,uC,uB,vr,uH,yl,vt,uI,vu⟩:=hr;(have G5:64<body.size->5=good ⟨17,src,aj,dst,ai,aG,id,flags,seq,bo,br,body⟩:=fun hb=>by rw[AQ ⟨17,src,aj,dst,ai,aG,id,flags,seq,bo,br,body⟩ rfl ⟨q0,q1,q2,q3,q4,q5,q6,q7,q8,q9,yi,yj,uC,uB,vr,uH,yl,vt,uI,vu⟩,aZ hb]);(have G1:body.size<=64->(0<bo+br\/0<seq+flags)->1=good ⟨17,src,aj,dst,ai,aG,id,flags,seq,bo,br,body⟩:=fun hb h=>Q5 ⟨17,src,aj,dst,ai,aG,id,flags,seq,bo,br,body⟩ rfl ⟨q0,q1,q2,q3,q4,q5,q6,q7,q8,q9,yi,yj,uC,uB,vr,uH,yl,vt,uI,vu⟩ hb (by intro x;have y:=x.2 rfl;simp only[] at y;omega));(have G0:body.size<=64->(bo+br<=0/\seq+flags<=0)->0=good ⟨17,src,aj,dst,ai,aG,id,flags,seq,bo,br,body⟩:=fun hb h=>JQ ⟨17,src,aj,dst,ai,aG,id,flags,seq,bo,br,body⟩ rfl ⟨q0,q1,q2,q3,q4,q5,q6,q7,q8,q9,yi,yj,uC,uB,vr,uH,yl,vt,uI,vu⟩ hb ⟨fun x=>absurd x zm,fun _=>by simp only[];omega⟩)
 go_enter func108,ntmps108
 go_wp2_with (go_at_call 166;refine(AO _ _ _).mono ?_;rintro e w' ⟨rfl,rfl⟩)
 all_goals first
  | (go_ret;exact⟨lQ (G5 om),hB⟩)
  | (go_ret;exact⟨lQ (G1 om om),hB⟩)
  | (go_ret;exact⟨lQ (G0 om om),hB⟩)
def ym(k:bM)(w:af)(hsz:k.body.size<=140737488351232)(ht:-9223372036854775808<=k.aG/\k.aG<=9223372036854775807):az ah 108 #[pv k] w fun e w'=>e=.returned (I Z (good k))/\aq w.heap.size w w':=by
 obtain⟨ae,src,aj,dst,ai,aG,id,flags,seq,bo,br,body⟩:=k
 by_cases hr:0<=src/\src<=4294967295/\0<=dst/\dst<=4294967295/\0<=seq/\seq<=4294967295/\0<=bo/\bo<=4294967295/\0<=aj/\aj<=65535/\0<=ai/\ai<=65535/\0<=id/\id<=65535/\0<=br/\br<=65535/\1<=aG/\aG<=255/\0<=flags/\flags<=63
 .by_cases h1:ae=1
  .exact qbN ae src aj dst ai aG id flags seq bo br body w hsz ht h1 hr
  by_cases h6:ae=6
  .exact qbO ae src aj dst ai aG id flags seq bo br body w hsz ht h6 hr
  by_cases qg:ae=17
  .exact qbP ae src aj dst ai aG id flags seq bo br body w hsz ht qg hr
  exact Q6 ae src aj dst ai aG id flags seq bo br body w hsz ht h1 h6 qg
 .by_cases h1:ae=1
  .exact qbK ae src aj dst ai aG id flags seq bo br body w hsz ht h1 hr
  by_cases h6:ae=6
  .exact qbL ae src aj dst ai aG id flags seq bo br body w hsz ht h6 hr
  by_cases qg:ae=17
  .exact qbM ae src aj dst ai aG id flags seq bo br body w hsz ht qg hr
  exact Q6 ae src aj dst ai aG id flags seq bo br body w hsz ht h1 h6 qg
def qbQ(w:af)(cs:Array Value)(o:Obj)(h:ew w b cs):ew (w.alloc o) b cs:=(Below.heap_alloc _ _ _ (Array.getElem?_eq_some_iff.1 h).1).trans h
def pJ{r o:Nat}{v:Value}(h:ew w r cs)(hne:r≠b):ew (w.setCell ⟨b,o,none⟩ v) r cs:=(Below.heap_setCell _ _ _ _ hne).trans h
def ew.lt(h:ew w b cs):b<w.heap.size:=(Array.getElem?_eq_some_iff.1 h).1
structure rN(l:List UInt8):Prop where
 mark:aC l 0=69
 size:bf l 2=l.length
 sum:bk (bJ (l.take 20))=65535
 yn:aC l 1=0
 piece:bf l 6=0
 aG:aC l 8≠0
@[simp] theorem qjO(k:bM)(n c:Int):(bl (hd k n c)).size=20:=rfl
def vw{s:ByteArray}{l:List UInt8}(h:s.data.toList=l):s=bl l:=by rw[←h,P4]
def Q7(h:Below W.drew.heap.size W.drew w'):Below W.heap.size W w':=⟨h.os,h.tape,h.output,h.size,h.block⟩
def Fk(h:ew w b cs)(hb:Below w.heap.size w w'):ew w' b cs:=(hb.block b (Array.getElem?_eq_some_iff.1 h).1).trans h
theorem JV(src dst ae n m:Int)(w:af)(h:n=m)(h0:0<=ae/\ae<=255)(h1:0<=src/\src<=4294967295)(h2:0<=dst/\dst<=4294967295)(h3:0<=m/\m<=140737488351232):
  az ah 107 #[I Z src,I Z dst,I Z ae,I Z n] w fun e w'=>e=.returned (.string (bl (ps src dst ae m)))/\aq w.heap.size w w':=by grind [Q3,bl]
theorem JW(s:ByteArray)(l:List UInt8)(w:af)(h:s=bl l)(hs:l.length<=140737488351232):
  az ah 104 #[.string s] w fun e w'=>e=.returned (I Z (65535-bk (bJ l)))/\aq w.heap.size w w':=by grind [JE,bl,kY,zW,bJ]
theorem JX(k:bM)(n m:Int)(w:af)(h:n=m)(n0:0<=m)(n1:m<=1000000)(h0:0<=k.ae/\k.ae<=255)(h1:0<=k.src/\k.src<=4294967295)(h2:0<=k.dst/\k.dst<=4294967295)(h3:0<=k.aG/\k.aG<=255)(h4:0<=k.id/\k.id<=65535):
  az ah 102 #[I Z k.ae,I Z k.src,I Z k.dst,I Z k.aG,I Z k.id,I Z n] w fun e w'=>e=.returned (.string (bl (hd k (20+m) (65535-bk (bJ (hd k (20+m) 0))))))/\aq w.heap.size w w':=by grind [Q0,bl,bJ]
def qbR(src aj dst ai aG id flags seq bo br : Int)(body : ByteArray)(w : af)(hg : good ⟨1, src, aj, dst, ai, aG, id, flags, seq, bo, br, body⟩ = 0):
    az ah 121 #[.agg #[I Z 1, I Z src, I Z aj, I Z dst, I Z ai, I Z aG, I Z id, I Z flags, I Z seq, I Z bo, I Z br, .string body]] w fun e w' => e = .returned (.tuple #[.string (bl (frame ⟨1, src, aj, dst, ai, aG, id, flags, seq, bo, br, body⟩)), I Z 0]) /\ aq w.heap.size w w' := by
  have T0 : ew (w.alloc (.cells #[I Z 1, I Z src, I Z aj, I Z dst, I Z ai, I Z aG, I Z id, I Z flags, I Z seq, I Z bo, I Z br, .string body] 77)) w.heap.size #[I Z 1, I Z src, I Z aj, I Z dst, I Z ai, I Z aG, I Z id, I Z flags, I Z seq, I Z bo, I Z br, .string body] := heap_alloc_new w _;have hB : aq w.heap.size w (w.alloc (.cells #[I Z 1, I Z src, I Z aj, I Z dst, I Z ai, I Z aG, I Z id, I Z flags, I Z seq, I Z bo, I Z br, .string body] 77)) := (cA _ _).alloc (au _) _;have c0 := T0.cell;have Ha : body.size <= 64 := (uJ _ hg).2.2.1;have R := (yg _).1 (uJ _ hg).2.1
  simp only[] at R
  have CG : ∀w, az ah 108 #[.agg #[I Z 1, I Z src, I Z aj, I Z dst, I Z ai, I Z aG, I Z id, I Z flags, I Z seq, I Z bo, I Z br, .string body]] w fun e w' => e = .returned (I Z 0) /\ aq w.heap.size w w' := by
    intro w
    have := ym ⟨1, src, aj, dst, ai, aG, id, flags, seq, bo, br, body⟩ w (by show body.size <= _;omega) (by show _ <= aG /\ aG <= _;omega)
    rw[hg] at this;exact this
  obtain⟨q0, q1, q2, q3, q4, q5, q6, q7, q8, q9, yi, yj, uC, uB, vr, uH, yl, vt, uI, vu⟩ := R
  clear hg;have hcb := uT (bJ (ps src dst 1 (8 + (body.size : Int)) ++ (pt ⟨1, src, aj, dst, ai, aG, id, flags, seq, bo, br, body⟩ 0 ++ body.data.toList)))
  have CC : ∀s w, s = bl (ps src dst 1 (8 + (body.size : Int)) ++ (pt ⟨1, src, aj, dst, ai, aG, id, flags, seq, bo, br, body⟩ 0 ++ body.data.toList)) -> az ah 104 #[.string s] w fun e w' => e = .returned (I Z (pK ⟨1, src, aj, dst, ai, aG, id, flags, seq, bo, br, body⟩)) /\ aq w.heap.size w w' := by
    intro s w h;refine JW s _ w h ?_
    simp[pt, ps, cr];omega
  have hc0 : pK ⟨1, src, aj, dst, ai, aG, id, flags, seq, bo, br, body⟩ = 65535-bk (bJ (ps src dst 1 (8 + (body.size : Int)) ++ (pt ⟨1, src, aj, dst, ai, aG, id, flags, seq, bo, br, body⟩ 0 ++ body.data.toList))) := rfl;(have hc1 : 0 <= pK ⟨1, src, aj, dst, ai, aG, id, flags, seq, bo, br, body⟩ /\ pK ⟨1, src, aj, dst, ai, aG, id, flags, seq, bo, br, body⟩ <= 65535 := by omega)
  have HF : aK (∀s, s = bl (hd ⟨1, src, aj, dst, ai, aG, id, flags, seq, bo, br, body⟩ (20 + (8 + (body.size : Int))) (65535-bk (bJ (hd ⟨1, src, aj, dst, ai, aG, id, flags, seq, bo, br, body⟩ (20 + (8 + (body.size : Int))) 0)))) ++ (bl [b8 flags] ++ { data := #[0] }) ++ bl (cr (oO ⟨1, src, aj, dst, ai, aG, id, flags, seq, bo, br, body⟩)) ++ (bl (cr (aj + ai)) ++ bl (cr seq) ++ body) -> s = bl (frame ⟨1, src, aj, dst, ai, aG, id, flags, seq, bo, br, body⟩)) := by
    show ∀s, _ -> _
    rintro s rfl
    (have e : dQ ⟨1, src, aj, dst, ai, aG, id, flags, seq, bo, br, body⟩ = 20 + (8 + (body.size : Int)) := by show 20 + 8 + (body.size : Int) = _;omega)
    apply vw
    unfold frame rO fr
    rw[e]
    simp[bl, pt, cr]
  clear hcb hc0;(have Hc : aK (oO ⟨1, src, aj, dst, ai, aG, id, flags, seq, bo, br, body⟩ = pK ⟨1, src, aj, dst, ai, aG, id, flags, seq, bo, br, body⟩) := by show _ = _;unfold oO;rw[aT zm])
  generalize pK ⟨1, src, aj, dst, ai, aG, id, flags, seq, bo, br, body⟩ = ck at *
  have rP : (bl (ps src dst 1 (8 + (body.size : Int)))).size = 0 := rfl;have my : eJ.wrap (aj + ai) = aj + ai := wrap_i64 _ om om;have hw2 : eJ.wrap (8 + (body.size : Int)) = 8 + (body.size : Int) := wrap_i64 _ om om
  go_enter func121, ntmps121
  go_wp2_with (go_at_call 108;go_fit (CG _);refine Ou ?_;clear T0 hB;intro w' hb T0 c0 hB)
  go_region_held3 (fun w' => w'.cell? ⟨w.heap.size, 0, none⟩ = some (I Z 1) /\ w'.cell? ⟨w.heap.size, 1, none⟩ = some (I Z src) /\ w'.cell? ⟨w.heap.size, 2, none⟩ = some (I Z aj) /\ w'.cell? ⟨w.heap.size, 3, none⟩ = some (I Z dst) /\ w'.cell? ⟨w.heap.size, 4, none⟩ = some (I Z ai) /\ w'.cell? ⟨w.heap.size, 5, none⟩ = some (I Z aG) /\ w'.cell? ⟨w.heap.size, 6, none⟩ = some (I Z id) /\ w'.cell? ⟨w.heap.size, 7, none⟩ = some (I Z flags) /\ w'.cell? ⟨w.heap.size, 8, none⟩ = some (I Z seq) /\ w'.cell? ⟨w.heap.size, 9, none⟩ = some (I Z bo) /\ w'.cell? ⟨w.heap.size, 10, none⟩ = some (I Z br) /\ w'.cell? ⟨w.heap.size, 11, none⟩ = some (.string body))
    (first | exact⟨T0.cell 0, T0.cell 1, T0.cell 2, T0.cell 3, T0.cell 4, T0.cell 5, T0.cell 6, T0.cell 7, T0.cell 8, T0.cell 9, T0.cell 10, T0.cell 11⟩ )
    (first | (go_at_call 103;go_fit (tY _ _ om om);refine Ou ?_;clear T0 hB;intro w' hb T0 c0 hB) | (go_at_call 103;go_fit (Fg _ _ om om);rintro e w' ⟨rfl, hb⟩;(try replace hb := Q7 hb);replace T0 := Fk T0 hb;have c0 := T0.cell;replace hB := hB.trans (hb.mono hB.size))
 )
  go_wp2_with (first | (go_at_call 107;go_fit (JV _ _ _ _ (8 + (body.size : Int)) _ om om om om om);refine Ou ?_;clear T0 hB;intro w' hb T0 c0 hB) | (go_at_call 104;go_fit (CC _ _ (by apply vw;simp[bl, pt, ps, cr]<;>rfl));refine Ou ?_;clear T0 hB;intro w' hb T0 c0 hB) | (go_at_call 102;go_fit (JX ⟨1, src, aj, dst, ai, aG, id, flags, seq, bo, br, body⟩ _ (8 + (body.size : Int)) _ om om om (by show(0:Int) <= 1 /\ (1:Int) <= 255;omega) ⟨q0, q1⟩ ⟨q2, q3⟩ (by show 0 <= aG /\ aG <= 255;omega) (by show 0 <= id /\ id <= 65535;omega));refine Ou ?_;clear T0 hB;intro w' hb T0 c0 hB) | (go_at_call 103;go_fit (tY _ _ om om);refine Ou ?_;clear T0 hB;intro w' hb T0 c0 hB))
  go_ret2
  exact⟨Vu (congrArg Value.string (HF.out _ (by rw[Hc.out]))) rfl, hB⟩
def AV(h:p:=by
 clear hz0
 go_enter func121,ntmps121
 go_wp2_with (go_at_call 108;go_fit (CG _);refine Fm ?_;intro w' hb T0 c0 hB)
 go_region_held3 (fun w'=>w'.cell? ⟨w.heap.size,0,none⟩=some (I Z 17)/\w'.cell? ⟨w.heap.size,1,none⟩=some (I Z src)/\w'.cell? ⟨w.heap.size,2,none⟩=some (I Z aj)/\w'.cell? ⟨w.heap.size,3,none⟩=some (I Z dst)/\w'.cell? ⟨w.heap.size,4,none⟩=some (I Z ai)/\w'.cell? ⟨w.heap.size,5,none⟩=some (I Z aG)/\w'.cell? ⟨w.heap.size,6,none⟩=some (I Z id)/\w'.cell? ⟨w.heap.size,7,none⟩=some (I Z flags)/\w'.cell? ⟨w.heap.size,8,none⟩=some (I Z seq)/\w'.cell? ⟨w.heap.size,9,none⟩=some (I Z bo)/\w'.cell? ⟨w.heap.size,10,none⟩=some (I Z br)/\w'.cell? ⟨w.heap.size,11,none⟩=some (.string body))
  (first|exact⟨T0.cell 0,T0.cell 1,T0.cell 2,T0.cell 3,T0.cell 4,T0.cell 5,T0.cell 6,T0.cell 7,T0.cell 8,T0.cell 9,T0.cell 10,T0.cell 11⟩|go_keep)
  (first|(go_at_call 103;go_fit (tY _ _ om om);refine Fm ?_;clear T0 hB;intro w' hb T0 c0 hB)|(go_at_call 103;go_fit (Fg _ _ om om);refine Fm ?_;clear T0 hB;intro w' hb T0 c0 hB)|(go_at_call 103;go_fit (Fh _ _ om om);refine Fm ?_;clear T0 hB;intro w' hb T0 c0 hB))
 go_wp2_with (first|(go_at_call 107;go_fit (JV _ _ _ _ (8+(body.size:Int)) _ om om om om om);refine Fm ?_;clear T0 hB;intro w' hb T0 c0 hB)|(go_at_call 104;go_fit (CC _ _ (by apply vw;simp[bl,pt,ps,cr,iM]<;>rfl));refine Fm ?_;clear T0 hB;intro w' hb T0 c0 hB)|(go_at_call 102;go_fit (JX ⟨17,src,aj,dst,ai,aG,id,flags,seq,bo,br,body⟩ _ (8+(body.size:Int)) _ om om om (by show(0:Int)<=17/\(17:Int)<=255;omega) ⟨q0,q1⟩ ⟨q2,q3⟩ (by show 0<=aG/\aG<=255;omega) (by show 0<=id/\id<=65535;omega));refine Fm ?_;clear T0 hB;intro w' hb T0 c0 hB)|(go_at_call 103;go_fit (tY _ _ om om);refine Fm ?_;clear T0 hB;intro w' hb T0 c0 hB))
 go_ret2
 first
  | exact⟨Vu (congrArg Value.string (HF.out _ (by rw[Hc.out,aZ hz.out]))) rfl,hB⟩
  | exact⟨Vu (congrArg Value.string (HF.out _ (by rw[Hc.out,aT hz.out]))) rfl,hB⟩):p:=h
def qbS(src aj dst ai aG id flags seq bo br:Int)(body:ByteArray)(w:af)(hg:good ⟨17,src,aj,dst,ai,aG,id,flags,seq,bo,br,body⟩=0):
  az ah 121 #[.agg #[I Z 17,I Z src,I Z aj,I Z dst,I Z ai,I Z aG,I Z id,I Z flags,I Z seq,I Z bo,I Z br,.string body]] w fun e w'=>e=.returned (.tuple #[.string (bl (frame ⟨17,src,aj,dst,ai,aG,id,flags,seq,bo,br,body⟩)),I Z 0])/\aq w.heap.size w w':=by
 have T0:ew (w.alloc (.cells #[I Z 17,I Z src,I Z aj,I Z dst,I Z ai,I Z aG,I Z id,I Z flags,I Z seq,I Z bo,I Z br,.string body] 77)) w.heap.size #[I Z 17,I Z src,I Z aj,I Z dst,I Z ai,I Z aG,I Z id,I Z flags,I Z seq,I Z bo,I Z br,.string body]:=heap_alloc_new w _;have hB:aq w.heap.size w (w.alloc (.cells #[I Z 17,I Z src,I Z aj,I Z dst,I Z ai,I Z aG,I Z id,I Z flags,I Z seq,I Z bo,I Z br,.string body] 77)):=(cA _ _).alloc (au _) _;have c0:=T0.cell;have Ha:body.size<=64:=(uJ _ hg).2.2.1;have R:=(yg _).1 (uJ _ hg).2.1
 simp only[] at R
 have CG:∀w,az ah 108 #[.agg #[I Z 17,I Z src,I Z aj,I Z dst,I Z ai,I Z aG,I Z id,I Z flags,I Z seq,I Z bo,I Z br,.string body]] w fun e w'=>e=.returned (I Z 0)/\aq w.heap.size w w':=by
  intro w
  have:=ym ⟨17,src,aj,dst,ai,aG,id,flags,seq,bo,br,body⟩ w (by show body.size<=_;omega) (by show _<=aG/\aG<=_;omega)
  rw[hg] at this;exact this
 obtain⟨q0,q1,q2,q3,q4,q5,q6,q7,q8,q9,yi,yj,uC,uB,vr,uH,yl,vt,uI,vu⟩:=R;clear hg;have hcb:=uT (bJ (ps src dst 17 (8+(body.size:Int))++(pt ⟨17,src,aj,dst,ai,aG,id,flags,seq,bo,br,body⟩ 0++body.data.toList)))
 have CC:∀s w,s=bl (ps src dst 17 (8+(body.size:Int))++(pt ⟨17,src,aj,dst,ai,aG,id,flags,seq,bo,br,body⟩ 0++body.data.toList))->az ah 104 #[.string s] w fun e w'=>e=.returned (I Z (pK ⟨17,src,aj,dst,ai,aG,id,flags,seq,bo,br,body⟩))/\aq w.heap.size w w':=by
  intro s w h;refine JW s _ w h ?_
  simp[pt,ps,cr,iM];omega
 have hc0:pK ⟨17,src,aj,dst,ai,aG,id,flags,seq,bo,br,body⟩=65535-bk (bJ (ps src dst 17 (8+(body.size:Int))++(pt ⟨17,src,aj,dst,ai,aG,id,flags,seq,bo,br,body⟩ 0++body.data.toList))):=rfl;(have hc1:0<=pK ⟨17,src,aj,dst,ai,aG,id,flags,seq,bo,br,body⟩/\pK ⟨17,src,aj,dst,ai,aG,id,flags,seq,bo,br,body⟩<=65535:=by omega)
 have HF:aK (∀s,s=bl (hd ⟨17,src,aj,dst,ai,aG,id,flags,seq,bo,br,body⟩ (20+(8+(body.size:Int))) (65535-bk (bJ (hd ⟨17,src,aj,dst,ai,aG,id,flags,seq,bo,br,body⟩ (20+(8+(body.size:Int))) 0))))++(bl (cr aj)++bl (cr ai)++bl (cr (8+(body.size:Int))))++bl (cr (oO ⟨17,src,aj,dst,ai,aG,id,flags,seq,bo,br,body⟩))++({ data:=#[] }++body)->s=bl (frame ⟨17,src,aj,dst,ai,aG,id,flags,seq,bo,br,body⟩)):=by
  show ∀s,_->_
  rintro s rfl
  (have e:dQ ⟨17,src,aj,dst,ai,aG,id,flags,seq,bo,br,body⟩=20+(8+(body.size:Int)):=by show 20+8+(body.size:Int)=_;omega)
  apply vw
  unfold frame rO fr
  rw[e]
  simp[bl,pt,cr]
 clear hcb hc0;(have Hc:aK (oO ⟨17,src,aj,dst,ai,aG,id,flags,seq,bo,br,body⟩=if pK ⟨17,src,aj,dst,ai,aG,id,flags,seq,bo,br,body⟩=0 then 65535 else pK ⟨17,src,aj,dst,ai,aG,id,flags,seq,bo,br,body⟩):=by show _=_;unfold oO;simp)
 generalize pK ⟨17,src,aj,dst,ai,aG,id,flags,seq,bo,br,body⟩=ck at *
 have rP:(bl (ps src dst 17 (8+(body.size:Int)))).size=12:=rfl;have my:eJ.wrap (aj+ai)=aj+ai:=wrap_i64 _ om om;have hw2:eJ.wrap (8+(body.size:Int))=8+(body.size:Int):=wrap_i64 _ om om
 by_cases hz0:ck=0
 .have hz:aK (ck=0):=hz0;(have ez:(ck==0)=true:=by simpa using hz0)
  exact AV
 .have hz:aK (¬ck=0):=hz0;(have ez:(ck==0)=false:=by simpa using hz0)
  exact AV
def qbT(src aj dst ai aG id flags seq bo br:Int)(body:ByteArray)(w:af)(hg:good ⟨6,src,aj,dst,ai,aG,id,flags,seq,bo,br,body⟩=0):
  az ah 121 #[.agg #[I Z 6,I Z src,I Z aj,I Z dst,I Z ai,I Z aG,I Z id,I Z flags,I Z seq,I Z bo,I Z br,.string body]] w fun e w'=>e=.returned (.tuple #[.string (bl (frame ⟨6,src,aj,dst,ai,aG,id,flags,seq,bo,br,body⟩)),I Z 0])/\aq w.heap.size w w':=by
 have T0:ew (w.alloc (.cells #[I Z 6,I Z src,I Z aj,I Z dst,I Z ai,I Z aG,I Z id,I Z flags,I Z seq,I Z bo,I Z br,.string body] 77)) w.heap.size #[I Z 6,I Z src,I Z aj,I Z dst,I Z ai,I Z aG,I Z id,I Z flags,I Z seq,I Z bo,I Z br,.string body]:=heap_alloc_new w _;have hB:aq w.heap.size w (w.alloc (.cells #[I Z 6,I Z src,I Z aj,I Z dst,I Z ai,I Z aG,I Z id,I Z flags,I Z seq,I Z bo,I Z br,.string body] 77)):=(cA _ _).alloc (au _) _;have c0:=T0.cell;have Ha:body.size<=64:=(uJ _ hg).2.2.1;have R:=(yg _).1 (uJ _ hg).2.1
 simp only[] at R
 have CG:∀w,az ah 108 #[.agg #[I Z 6,I Z src,I Z aj,I Z dst,I Z ai,I Z aG,I Z id,I Z flags,I Z seq,I Z bo,I Z br,.string body]] w fun e w'=>e=.returned (I Z 0)/\aq w.heap.size w w':=by
  intro w
  have:=ym ⟨6,src,aj,dst,ai,aG,id,flags,seq,bo,br,body⟩ w (by show body.size<=_;omega) (by show _<=aG/\aG<=_;omega)
  rw[hg] at this;exact this
 obtain⟨q0,q1,q2,q3,q4,q5,q6,q7,q8,q9,yi,yj,uC,uB,vr,uH,yl,vt,uI,vu⟩:=R;clear hg;have hcb:=uT (bJ (ps src dst 6 (20+(body.size:Int))++(pt ⟨6,src,aj,dst,ai,aG,id,flags,seq,bo,br,body⟩ 0++body.data.toList)))
 have CC:∀s w,s=bl (ps src dst 6 (20+(body.size:Int))++(pt ⟨6,src,aj,dst,ai,aG,id,flags,seq,bo,br,body⟩ 0++body.data.toList))->az ah 104 #[.string s] w fun e w'=>e=.returned (I Z (pK ⟨6,src,aj,dst,ai,aG,id,flags,seq,bo,br,body⟩))/\aq w.heap.size w w':=by
  intro s w h;refine JW s _ w h ?_
  simp[pt,ps,cr,iM];omega
 have hc0:pK ⟨6,src,aj,dst,ai,aG,id,flags,seq,bo,br,body⟩=65535-bk (bJ (ps src dst 6 (20+(body.size:Int))++(pt ⟨6,src,aj,dst,ai,aG,id,flags,seq,bo,br,body⟩ 0++body.data.toList))):=rfl;(have hc1:0<=pK ⟨6,src,aj,dst,ai,aG,id,flags,seq,bo,br,body⟩/\pK ⟨6,src,aj,dst,ai,aG,id,flags,seq,bo,br,body⟩<=65535:=by omega)
 have HF:aK (∀s,s=bl (hd ⟨6,src,aj,dst,ai,aG,id,flags,seq,bo,br,body⟩ (20+(20+(body.size:Int))) (65535-bk (bJ (hd ⟨6,src,aj,dst,ai,aG,id,flags,seq,bo,br,body⟩ (20+(20+(body.size:Int))) 0))))++(bl (cr aj)++bl (cr ai)++bl (iM seq)++bl (iM bo)++{ data:=#[80] }++bl [b8 flags]++bl (cr br))++bl (cr (oO ⟨6,src,aj,dst,ai,aG,id,flags,seq,bo,br,body⟩))++({ data:=#[0,0] }++body)->s=bl (frame ⟨6,src,aj,dst,ai,aG,id,flags,seq,bo,br,body⟩)):=by
  show ∀s,_->_
  rintro s rfl
  (have e:dQ ⟨6,src,aj,dst,ai,aG,id,flags,seq,bo,br,body⟩=20+(20+(body.size:Int)):=by show 20+20+(body.size:Int)=_;omega)
  apply vw
  unfold frame rO fr
  rw[e]
  simp[bl,pt,cr,iM]<;>rfl
 clear hcb hc0;(have Hc:aK (oO ⟨6,src,aj,dst,ai,aG,id,flags,seq,bo,br,body⟩=pK ⟨6,src,aj,dst,ai,aG,id,flags,seq,bo,br,body⟩):=by show _=_;unfold oO;rw[aT zm])
 generalize pK ⟨6,src,aj,dst,ai,aG,id,flags,seq,bo,br,body⟩=ck at *
 have rP:(bl (ps src dst 6 (20+(body.size:Int)))).size=12:=rfl;have my:eJ.wrap (aj+ai)=aj+ai:=wrap_i64 _ om om;have hw2:eJ.wrap (8+(body.size:Int))=8+(body.size:Int):=wrap_i64 _ om om
 go_enter func121,ntmps121
 go_wp2_with (go_at_call 108;go_fit (CG _);refine JY ?_;clear T0 hB;intro w' hb T0 c0 hB)
 go_region_held3 (fun w'=>w'.cell? ⟨w.heap.size,0,none⟩=some (I Z 6)/\w'.cell? ⟨w.heap.size,1,none⟩=some (I Z src)/\w'.cell? ⟨w.heap.size,2,none⟩=some (I Z aj)/\w'.cell? ⟨w.heap.size,3,none⟩=some (I Z dst)/\w'.cell? ⟨w.heap.size,4,none⟩=some (I Z ai)/\w'.cell? ⟨w.heap.size,5,none⟩=some (I Z aG)/\w'.cell? ⟨w.heap.size,6,none⟩=some (I Z id)/\w'.cell? ⟨w.heap.size,7,none⟩=some (I Z flags)/\w'.cell? ⟨w.heap.size,8,none⟩=some (I Z seq)/\w'.cell? ⟨w.heap.size,9,none⟩=some (I Z bo)/\w'.cell? ⟨w.heap.size,10,none⟩=some (I Z br)/\w'.cell? ⟨w.heap.size,11,none⟩=some (.string body))
  (exact⟨T0.cell 0,T0.cell 1,T0.cell 2,T0.cell 3,T0.cell 4,T0.cell 5,T0.cell 6,T0.cell 7,T0.cell 8,T0.cell 9,T0.cell 10,T0.cell 11⟩)
  (first|(go_at_call 103;go_fit (tY _ _ om om);refine Fm ?_;clear T0 hB;intro w' hb T0 c0 hB)|(go_at_call 103;go_fit (Fg _ _ om om);refine JY ?_;clear T0 hB;intro w' hb T0 c0 hB)|(go_at_call 103;go_fit (Fh _ _ om om);refine JY ?_;clear T0 hB;intro w' hb T0 c0 hB))
 go_wp2_with (first|(go_at_call 107;go_fit (JV _ _ _ _ (20+(body.size:Int)) _ om om om om om);refine JY ?_;clear T0 hB;intro w' hb T0 c0 hB)|(go_at_call 104;go_fit (CC _ _ (by apply vw;simp[bl,pt,ps,cr,iM]<;>rfl));refine JY ?_;clear T0 hB;intro w' hb T0 c0 hB)|(go_at_call 102;go_fit (JX ⟨6,src,aj,dst,ai,aG,id,flags,seq,bo,br,body⟩ _ (20+(body.size:Int)) _ om om om (by show(0:Int)<=6/\(6:Int)<=255;omega) ⟨q0,q1⟩ ⟨q2,q3⟩ (by show 0<=aG/\aG<=255;omega) (by show 0<=id/\id<=65535;omega));refine JY ?_;clear T0 hB;intro w' hb T0 c0 hB)|(go_at_call 103;go_fit (tY _ _ om om);refine JY ?_;clear T0 hB;intro w' hb T0 c0 hB))
 go_ret2
 exact⟨Vu (congrArg Value.string (HF.out _ (by rw[Hc.out]))) rfl,hB⟩
theorem qbU(k:bM)(w:af)(hsz:k.body.size<=140737488351232)(ht:-9223372036854775808<=k.aG/\k.aG<=9223372036854775807)(hg:good k≠0):
  az ah 121 #[pv k] w fun e w'=>e=.returned (.tuple #[.string ByteArray.empty,I Z (good k)])/\aq w.heap.size w w':=by
 have hB:aq w.heap.size w (w.alloc (.cells #[I Z k.ae,I Z k.src,I Z k.aj,I Z k.dst,I Z k.ai,I Z k.aG,I Z k.id,I Z k.flags,I Z k.seq,I Z k.bo,I Z k.br,.string k.body] 77)):=(cA _ _).alloc (au _) _;have c0:=Hb w #[I Z k.ae,I Z k.src,I Z k.aj,I Z k.dst,I Z k.ai,I Z k.aG,I Z k.id,I Z k.flags,I Z k.seq,I Z k.bo,I Z k.br,.string k.body] 77;(have CG:=fun w=>ym k w hsz ht);(have Q8:(good k != 0)=true:=by simpa using hg)
 generalize good k=ge at *
 unfold pv at *
 go_enter func121,ntmps121
 go_wp2_with (go_at_call 108;go_fit (CG _);refine wW ?_;clear hB;intro w' hb hB)
 go_ret2
 exact⟨rfl,hB⟩
theorem qbV(k:bM)(w:af)(hsz:k.body.size<=140737488351232)(ht:-9223372036854775808<=k.aG/\k.aG<=9223372036854775807):
  az ah 121 #[pv k] w fun e w'=>e=.returned (.tuple #[.string (built k),I Z (good k)])/\aq w.heap.size w w':=by
 by_cases hg:good k=0
 .have hK:=(Hd _).1 (uJ k hg).1
  unfold built
  rw[aZ hg,hg];obtain⟨ae,src,aj,dst,ai,aG,id,flags,seq,bo,br,body⟩:=k
  simp only[] at hK
  rcases hK with rfl|rfl|rfl
  .exact qbR src aj dst ai aG id flags seq bo br body w hg
  .exact qbT src aj dst ai aG id flags seq bo br body w hg
  .exact qbS src aj dst ai aG id flags seq bo br body w hg
 grind [built,qbU]
end
end Go.Proofs.YtnkpgdejagglaaaGreatDoor
