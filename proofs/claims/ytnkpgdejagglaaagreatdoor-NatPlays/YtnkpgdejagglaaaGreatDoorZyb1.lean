/-
  Of what a law stands on.
-/
import Derived.Test.YtnkpgdejagglaaaGreatDoorProg
import Derived.WalkKit
import Derived.ProofKit
import Derived.OpenShut
import Derived.Laws.IdiomStrings
import Derived.Below
import Derived.OneCell
import Derived.Deep.AppendSrc
import Derived.Laws.BitsAllLaws
import Derived.Deep.DeepFit
import Derived.Deep.MidRow
import Derived.Deep.RegionHeld3
import Derived.Laws.CopyOwn
import Derived.ShutString
import Derived.Outline
import Derived.WalkSpells
import Derived.Test.YtnkpgdejagglaaaGreatDoorZym
set_option linter.all false
namespace Go.Proofs.YtnkpgdejagglaaaGreatDoor
open _root_.Array renaming toArray_toList->lX
open _root_.Go renaming Calls->az,Operand->aU,TypeId->bt,Value->ag,World->af,YieldsIf->gf,execOp->bG,maxLen->jt,results->eQ,run_underlying->gU,undef->gW,wpList->aM,wpList_plain->bP,wpList_step->gV,yielded->dy,zeroValue->eM
open _root_.Go.Builtin renaming append_->kz
open _root_.Go.IntKind renaming bits->jI,i64->eJ,signed->iB,u16->aS,u8->iJ,wrap->jH
open _root_.Go.Oper renaming wp->kU
open _root_.Go.Proofs.Tryz renaming prog->ah
open _root_.Go.Region renaming wanted->bj
open _root_.Go.Result renaming andThen_ok->bF
open _root_.Go.RowKit.Below renaming heap_alloc->fV,heap_setCell->eC,refl->cA
open _root_.Go.Sem renaming run_bind->bB,run_pure->bH
open _root_.Go.Value renaming int->bO,ownBlock->bA
open _root_.Int renaming eq_ofNat_of_zero_le->eU
open _root_.List renaming eq_nil_of_length_eq_zero->iI,take_of_length_le->fC
open _root_.Nat renaming le_refl->au,zero_add->bX
open Go.Value renaming int → I,pointer → V
open Go.IntKind renaming i64 → Z
open _root_.Go.Proofs.Tryz
set_option maxHeartbeats 16000000
set_option maxRecDepth 100000
variable {ops:Array Oper}{rest:List Oper}{o:Oper}{a:Act}{Q:Exit->Act->World->Prop}{v:Value}{b:Nat}{w:World}{t:TypeId}{cs old:Array Value}{fn:Func}{p u:Tmp}{S:World->Prop}
section
open Go.ChangeShapes Go.WideShapes Go.ChangeAt Go.RowKit
def bc(l:List UInt8):List ag:=l.map fun b=>bO .u8 (b.toNat:Int)
theorem XI(l:List UInt8):(bc l).length=l.length:=by simp[bc]
theorem XJ(l m:List UInt8):bc (l++m)=bc l++bc m:=by simp[bc]
theorem XK(l:List UInt8)(j:Nat):(bc l)[j]?=(l[j]?).map fun b=>bO .u8 (b.toNat:Int):=by simp[bc]
def XL(l:List UInt8):∀u∈bc l,u.oneCell'=true:=by
 intro u hu
 obtain⟨_,_,rfl⟩:=List.mem_map.1 hu
 rfl
theorem q73(s:ByteArray):byteCells s=bc s.data.toList:=rfl
section
variable {P:Program} (w:World)
theorem qsc(base:Nat)(t tx ty e:bt)(i:TypeInfo)(z:ag)(ht:P.underlying t=some (.slice e))(hi:P.info? e=some i)(hz:i.zero=some z)(hsize:i.size=1)(hby:i.bytes=1)(hzs:z.cells.size=1)(v:ag)(n:Nat)(xs:List ag)(hown:w.ownsRow base e 1 v n xs)(x:ag)(m:Nat)(news:List ag)(hs:Src P 1 tx x m news w)(hbytes:n+m<=140737488355328)(hbase:base<=w.heap.size):
  ∃v' w',(kz #[t,tx] ty #[v,x]).run P w=.ok v' w'/\w'.ownsRow base e 1 v' (n+m) (xs++news)/\w.grownBy w' v.ownBlock/\
   (v'.ownBlock=v.ownBlock\/v'.ownBlock=some w.heap.size):=by
 (have h63:n+m<=jt:=by unfold jt;omega);have hl:=hs.newsLen;(have hlen:(xs++news).length=(n+m)*1:=by rw[List.length_append,hown.1,hl,Nat.add_mul]);(have hs':Src P i.size tx x m news w:=by rw[hsize];exact hs)
 have grown:∀(old:Nat),old<n+m->∀(row:Option Nat),
   (w.drew.alloc (.cells ((xs++news).toArray++Builtin.zeroCells z.cells (grownCap w (n+m) old e-(n+m))) e)).ownsRow base e 1
    (.slice (some ⟨w.heap.size,0,none⟩) (n+m) (grownCap w (n+m) old e)) (n+m) (xs++news)/\
   w.grownBy (w.drew.alloc (.cells ((xs++news).toArray++Builtin.zeroCells z.cells (grownCap w (n+m) old e-(n+m))) e)) row:=by
  intro old ho row;have fq:=grownCap_ge w (n+m) old e;have hcm:grownCap w (n+m) old e<=jt:=grownCap_le_maxLen w (n+m) old e h63
  refine⟨⟨hlen,.inr ⟨w.heap.size,_,_,rfl,hbase,heap_alloc_new w.drew _,fq,hcm,?_,?_⟩⟩,⟨rfl,rfl,rfl,by simp,fun k hk _=>fV w.drew _ k hk⟩⟩
  .simp only[Array.size_append,List.size_toArray,size_zeroCells,hzs,hlen]
   omega
  .simp only[Array.toList_append]
   rw[←hlen]
   exact List.take_left
 rcases hown.2 with⟨rfl,rfl⟩|⟨g,cap,cur,rfl,hbg,hg,y7,hcm,hcs,GJ⟩
 .have hx:xs=[]:=iI (by simpa using hown.1)
  subst hx
  by_cases hm:m=0
  .subst hm
   have hn:news=[]:=iI (by simpa using hl)
   subst hn
   refine⟨.slice none 0 0,w,?_,World.ownsRow_nil w base e 1,⟨rfl,rfl,rfl,au _,fun _ _ _=>rfl⟩,Or.inl rfl⟩
   rcases hs'.kind with⟨e',hk⟩|hk<;>simp[kz,gU ht,gU hk,sizeOf,typeInfo,hi,hs'.len,hs'.cells]
  .have hr:=run_append_grow_src (P:=P) w t tx ty e i z ht hi hz none 0 0 [] (by simpa using run_firstCells_none (P:=P) w.drew i.size 0 0 0) x m news hs' om om
    (by rw[hby,bX,nextslicecap_zero om];omega)
   have hgr:=grown 0 om (bA (.slice none 0 0))
   simp only[bX,List.nil_append] at hgr hr ⊢
   exact⟨_,_,hr,hgr.1,hgr.2,Or.inr rfl⟩
 .by_cases hroom:n+m<=cap
  ·(have XM:n*1+news.length<=cur.size:=by rw[hl,hcs,←Nat.add_mul];exact Nat.mul_le_mul_right _ hroom);have hst:=run_storeCells_at P g (n*i.size) e news 0 cur w hg (by rw[hsize];simpa using XM) hs.one
   simp only[Nat.add_zero] at hst
   have hr:(kz #[t,tx] ty #[.slice (some ⟨g,0,none⟩) n cap,x]).run P w=.ok (.slice (some ⟨g,0,none⟩) (n+m) cap) (w.setRow g (cur.toList.take (n*i.size)++news++cur.toList.drop (n*i.size+news.length)).toArray):=by
    rcases hs'.kind with⟨e',hk⟩|hk<;>simp[kz,gU ht,gU hk,sizeOf,typeInfo,hi,hs'.len,hroom,hs'.cells,Addr.add_lit,hst]
   rw[hsize] at hr
   refine⟨_,_,hr,⟨hlen,.inr ⟨g,cap,_,rfl,hbg,setRow_heap w g cur _ e _ hg,hroom,hcm,?_,?_⟩⟩,⟨rfl,rfl,rfl,by simp,fun k _ hk=>setRow_other w g k _ (fun e=>hk (by simp[bA,e]))⟩,Or.inl rfl⟩
   .grind
   grind
  ·(have holds:∀j u,xs[j]?=some u->w.drew.cell? ((⟨g,0,none⟩:Addr).add j)=some u:=by simpa using hown.cells (g:=g) rfl)
   have hr:=run_append_grow_src (P:=P) w t tx ty e i z ht hi hz (some ⟨g,0,none⟩) n cap xs (by rw[hsize];exact run_firstCells_some (P:=P) w.drew 1 n ⟨g,0,none⟩ n cap xs hown.1 holds) x m news hs' om om
    (by have:=growslice_fits (need:=n+m) (old:=cap) (bytes:=i.bytes) om (by rw[hby];omega);exact this)
   have hgr:=grown cap om (bA (.slice (some ⟨g,0,none⟩) n cap))
   exact⟨_,_,hr,hgr.1,hgr.2,Or.inr rfl⟩
def UH(hgd:o.guard=none)(s y:aU)(t tx:bt)(ho:o.op=.call { callee:=.builtin .append,args:=#[s,y],argTypes:=#[t,tx] })(base:Nat)(e:bt)(i:TypeInfo)(z:ag)(ht:P.underlying t=some (.slice e))(hi:P.info? e=some i)(hz:i.zero=some z)(hsize:i.size=1)(hby:i.bytes=1)(hzs:z.cells.size=1)(v:ag)(n:Nat)(xs:List ag)(hsv:a.eval s=v)(hown:w.ownsRow base e 1 v n xs)(x:ag)(m:Nat)(news:List ag)(hx:a.eval y=x)(hs:Src P 1 tx x m news w)(hbytes:n+m<=140737488355328)(hbase:base<=w.heap.size)(h:∀v' w',w'.ownsRow base e 1 v' (n+m) (xs++news)->w.grownBy w' v.ownBlock->(v'.ownBlock=v.ownBlock\/v'.ownBlock=some w.heap.size)->aM P ops Q rest (a.put o.dst v') w'):
  aM P ops Q (o::rest) a w:=by
 refine bP hgd fun K hK=>?_
 obtain⟨v',w',hr,h2,h3,h4⟩:=qsc (P:=P) w base t tx o.type e i z ht hi hz hsize hby hzs v n xs hown x m news hs hbytes hbase
 unfold kU bG
 simp only[ho,resolve,invoke,builtin,bB,bH,bF,List.map_toArray,List.map_cons,List.map_nil,hsv,hx,hr]
 exact hK _ _ (h v' w' h2 h3 h4)
end
def UI:(ah.info? 5).map (fun i=>(i.zero,i.size,i.bytes))=some (some (.int .u8 0),1,1):=by kernel_rfl
end
def bk(n:Int):Int:=if n=0 then 0 else(n-1)%65535+1
def bJ:List UInt8->Int
 | []=>0
 | [a]=>(a.toNat:Int)*256
 | a::b::r=>(a.toNat:Int)*256+(b.toNat:Int)+bJ r
def uT(n:Int):0<=bk n/\bk n<=65535:=by
 unfold bk;split<;>omega
def q3x(n:Int)(h:n≠0):1<=bk n:=by
 unfold bk;rw[aT h];omega
def q9w(a b:Int)(a0:0<=a)(a1:a<=65535)(b0:0<=b)(b1:b<=65535):((a+b)%65536+(a+b)/65536)%65536=bk (a+b):=by
 unfold bk
 by_cases h:a+b<65536
 ·(have e1:(a+b)%65536=a+b:=by omega);(have e2:(a+b)/65536=0:=by omega)
  rw[e1,e2];split<;>omega
 ·(have e1:(a+b)%65536=a+b-65536:=by omega);(have e2:(a+b)/65536=1:=by omega);(have e3:(a+b-1)%65535=a+b-65536:=by omega)
  rw[e1,e2,e3];split<;>omega
theorem N8(n:Int):bk n%65535=n%65535:=by
 unfold bk;split<;>omega
def qo6(n:Int):bk n=0↔n=0:=by
 unfold bk;split<;>omega
def q7i(x y:Int)(h:x%65535=y%65535)(h0:x=0↔y=0):bk x=bk y:=by
 unfold bk;split<;>split<;>omega
theorem uB(x y:Int)(hx:0<=x)(hy:0<=y):bk (bk x+y)=bk (x+y):=by
 have h1:=N8 x;have h2:=uT x;have h3:=qo6 x
 refine q7i _ _ ?_ ?_<;>omega
def xQ(c:UInt8):0<=(c.toNat:Int)/\(c.toNat:Int)<=255:=by
 have:=c.toNat_lt;omega
def UJ:(l:List UInt8)->0<=bJ l
 | []=>by simp[bJ]
 | [a]=>by simp[bJ];omega
 | a::b::r=>by have:=UJ r;simp[bJ];omega
def P3:(l:List UInt8)->2*bJ l<=65535*((l.length:Int)+1)
 | []=>by simp[bJ]
 | [a]=>by have:=xQ a;simp[bJ];omega
 | a::b::r=>by have:=P3 r;have:=xQ a;have:=xQ b;simp[bJ];omega
theorem qvc(c:UInt8):(l:List UInt8)->bJ (l++[c])=bJ l+if l.length%2=0 then(c.toNat:Int)*256 else(c.toNat:Int)
 | []=>by simp[bJ]
 | [a]=>by simp[bJ]
 | a::b::r=>by
  have:=qvc c r
  (have e:(a::b::r).length%2=r.length%2:=by simp;omega)
  rw[e];simp only[List.cons_append,bJ];rw[this];omega
theorem kX(m:List UInt8):(l:List UInt8)->l.length%2=0->bJ (l++m)=bJ l+bJ m
 | [],_=>by simp[bJ]
 | [a],h=>by simp at h
 | a::b::r,h=>by
  (have e:r.length%2=0:=by simp at h;omega)
  have:=kX m r e
  simp only[List.cons_append,bJ];rw[this];omega
theorem uC(s:ByteArray)(k:Nat)(h:k<s.size):s.data.toList.take (k+1)=s.data.toList.take k++[s[k]]:=by
 rw[List.take_succ_eq_append_getElem (by simpa using h)];rfl
theorem q48(s:ByteArray)(k:Nat)(h:k<=s.size):(s.data.toList.take k).length=k:=by
 rw[List.length_take];have:s.data.toList.length=s.size:=by simp
 omega
theorem UK(s:ByteArray)(k:Nat)(h:k<s.size):bJ (s.data.toList.take (k+1))=bJ (s.data.toList.take k)+if k%2=0 then(s[k].toNat:Int)*256 else(s[k].toNat:Int):=by
 rw[uC s k h,qvc,q48 s k om]
def q4x(s:ByteArray)(k:Nat)(hk:k%2=0)(h:k+1<s.size):bJ (s.data.toList.take (k+2))=bJ (s.data.toList.take k)+((s[k].toNat:Int)*256+(s[k+1].toNat:Int)):=by
 rw[show k+2=(k+1)+1 from rfl,UK s (k+1) h,UK s k om,aZ hk,aT om];omega
def q63(s:ByteArray)(k:Nat)(hk:k%2=0)(h:k<s.size)(h1:¬k+1<s.size):bJ (s.data.toList.take (k+2))=bJ (s.data.toList.take k)+(s[k].toNat:Int)*256:=by
 have e:s.data.toList.take (k+2)=s.data.toList.take (k+1):=by
  (have hl:s.data.toList.length=s.size:=by simp);rw[fC om,fC om]
 rw[e,UK s k h,aZ hk]
def q8k(s:ByteArray)(k:Nat)(h:s.size<=k):bJ (s.data.toList.take k)=bJ s.data.toList:=by
 rw[fC (by simpa using h)]
def b8(n:Int):UInt8:=UInt8.ofNat (n%256).toNat
theorem qR(n:Int):((b8 n).toNat:Int)=n%256:=by
 unfold b8
 rw[UInt8.toNat_ofNat'];omega
theorem GK(n:Int):iJ.wrap n=n%256:=by
 simp[jH,jI,iB]
theorem wrap_i64(n:Int)(h0:-9223372036854775808<=n)(h1:n<=9223372036854775807):eJ.wrap n=n:=by
 simp[jH,jI,iB];omega
def cr(n:Int):List UInt8:=[b8 (n/256),b8 n]
def iM(n:Int):List UInt8:=cr (n/65536)++cr n
@[simp] theorem qjF(n:Int):(cr n).length=2:=rfl
@[simp] theorem qjG(n:Int):(iM n).length=4:=rfl
theorem zV(n:Int):bJ (cr n)=n%65536:=by grind [cr,bJ,qR]
theorem UL(n:Int):bJ (iM n)=n/65536%65536+n%65536:=by
 unfold iM
 rw[kX _ _ (by simp[cr]),zV,zV]
theorem q68(c:UInt8):b8 (c.toNat:Int)=c:=by
 apply UInt8.toNat_inj.1
 have:=qR (c.toNat:Int);have:=c.toNat_lt;omega
theorem qd(m n:Int)(h:m%256=n%256):b8 m=b8 n:=by unfold b8;rw[h]
def q3g(m n:Int)(h:m%65536=n%65536):cr m=cr n:=by
 unfold cr;rw[qd (m/256) (n/256) om,qd m n om]
theorem q9y(a b:UInt8):cr ((a.toNat:Int)*256+(b.toNat:Int))=[a,b]:=by
 have ha:=a.toNat_lt;have hb:=b.toNat_lt;(have e1:b8 (((a.toNat:Int)*256+(b.toNat:Int))/256)=a:=by rw[qd _ (a.toNat:Int) om,q68])
 grind [qd,q68,cr]
theorem qq4(a b:Nat)(ha:a<4611686018427387904)(hb:b<4611686018427387904):bits .or .i64 (a:Int) (b:Int)=((a ||| b:Nat):Int):=by
 have hx:a ||| b<2^62:=Nat.or_lt_two_pow om om
 show eJ.wrap ((BitVec.ofInt 64 (a:Int) ||| BitVec.ofInt 64 (b:Int)).toNat:Int)=_
 grind [wrap_i64]
theorem qxl(a b:Nat)(ha:a<4611686018427387904)(hb:b<4611686018427387904):bits .and .i64 (a:Int) (b:Int)=((a &&& b:Nat):Int):=by
 have hx:a &&& b<2^62:=Nat.and_lt_two_pow _ om
 show eJ.wrap ((BitVec.ofInt 64 (a:Int) &&& BitVec.ofInt 64 (b:Int)).toNat:Int)=_
 grind [wrap_i64]
theorem q7e(x y:Int)(x0:0<=x)(x1:x<=255)(y0:0<=y)(y1:y<=255):bits .or .i64 (x*256) y=x*256+y:=by
 obtain⟨a,rfl⟩:=eU x0
 obtain⟨b,rfl⟩:=eU y0
 rw[show(a:Int)*256=((a*256:Nat):Int) by omega,qq4 _ _ om om,nat_join 8 _ _ om om];omega
theorem q9m(x y:Int)(x0:0<=x)(x1:x<=65535)(y0:0<=y)(y1:y<=65535):bits .or .i64 (x*65536) y=x*65536+y:=by
 obtain⟨a,rfl⟩:=eU x0
 obtain⟨b,rfl⟩:=eU y0
 rw[show(a:Int)*65536=((a*65536:Nat):Int) by omega,qq4 _ _ om om,nat_join 16 _ _ om om];omega
theorem q7f(x:Int)(x0:0<=x)(x1:x<=4294967295):bits .and .i64 x 65535=x%65536:=by
 obtain⟨a,rfl⟩:=eU x0
 (rw[show(65535:Int)=((65535:Nat):Int) by omega,qxl _ _ om om])
 have:=Nat.and_two_pow_sub_one_eq_mod a 16
 grind
def aC(l:List UInt8)(k:Nat):Int:=((l.getD k 0).toNat:Int)
theorem nE(l:List UInt8)(k:Nat):0<=aC l k/\aC l k<=255:=xQ _
def bf(l:List UInt8)(k:Nat):Int:=aC l k*256+aC l (k+1)
def et(l:List UInt8)(k:Nat)(n:Int):List UInt8:=(l.set k (b8 (n/256))).set (k+1) (b8 n)
@[simp] theorem q6p(l:List UInt8)(k:Nat)(n:Int):(et l k n).length=l.length:=by simp[et]
theorem Ej(l:List UInt8)(k:Nat):0<=bf l k/\bf l k<=65535:=by
 unfold bf
 have:=nE l k;have:=nE l (k+1);omega
def bl(l:List UInt8):ByteArray:=⟨l.toArray⟩
theorem zW(l:List UInt8):(bl l).data.toList=l:=by simp[bl]
theorem kY(l:List UInt8):(bl l).size=l.length:=by simp[bl,ByteArray.size]
theorem P4(s:ByteArray):bl s.data.toList=s:=by cases s;simp[bl]
def be(v:Int):Nat->List UInt8
 | 0=>[]
 | n+1=>be (v/256) n++[b8 v]
theorem XN(v:Int):be v 4=iM v:=by
 (have e:v/256/256=v/65536:=by omega)
 unfold be be be be be iM cr
 rw[e];rfl
theorem nO(v:Int)(n:Nat):(be v n).length=n:=by
 induction n generalizing v with
 | zero=>rfl
 | succ n ih=>simp[be,ih]
def hi(v:Int):Nat->Int
 | 0=>v
 | k+1=>hi v k/256
def XP(v:Int)(h0:0<=v)(h1:v<=9223372036854775807)(k:Nat):0<=hi v k/\hi v k<=9223372036854775807:=by
 induction k with
 | zero=>exact⟨h0,h1⟩
 | succ k ih=>unfold hi;omega
theorem XQ(v:Int)(j:Nat):hi (v/256) j=hi v (j+1):=by
 induction j with
 | zero=>rfl
 | succ j ij=>unfold hi;rw[ij]
def XR(v:Int)(j:Nat):be v (j+1)=[b8 (hi v j)]++be v j:=by
 induction j generalizing v with
 | zero=>rfl
 | succ j ihj=>
  show be (v/256) (j+1)++[b8 v]=_
  rw[ihj (v/256),XQ];simp[be]
theorem XS(c:UInt8)(l:List UInt8):bl ([c]++l)=⟨#[c]⟩++bl l:=by
 rw[←P4 ((⟨#[c]⟩:ByteArray)++bl l)]
 congr 1
def num(l:List UInt8):Int:=l.foldl (fun n c=>256*n+(c.toNat:Int)) 0
theorem XU(l:List UInt8)(c:UInt8):num (l++[c])=256*num l+(c.toNat:Int):=by simp[num]
theorem kL(a b:List UInt8):bl a++bl b=bl (a++b):=by
 rw[←P4 (bl a++bl b)]
 congr 1
section
open Go.ChangeShapes Go.WideShapes Go.ChangeAt Go.RowKit
def aP(t:bt)(w:af)(b:Nat)(cs:Array ag):Prop:=w.heap[b]?=some (.cells cs t (0,0))
section
variable {t:TypeId} {w w':World} {b r:Nat} {cs:Array Value}
def aP.cell(h:aP t w b cs):∀o,w.cell? ⟨b,o,none⟩=cs[o]?:=by intro o;unfold aP at h;simp[World.cell?,h]
def aP.free(h:aP t w b cs):∀o,w.frozen? ⟨b,o,none⟩=false:=by intro o;unfold aP at h;simp[World.frozen?,h]
def aP.lt(h:aP t w b cs):b<w.heap.size:=(Array.getElem?_eq_some_iff.1 h).1
def aP.below(h:aP t w b cs)(hb:Below w.heap.size w w'):aP t w' b cs:=(hb.block b h.lt).trans h
def aP.keep{B:Nat}(h:aP t w b cs)(hb:Below B w w')(hlt:b<B):aP t w' b cs:=(hb.block b hlt).trans h
def aP.ne{c:Nat}(h:aP t w b cs)(hle:w.heap.size<=c):b≠c:=Nat.ne_of_lt (Nat.lt_of_lt_of_le h.lt hle)
def aP.new(t:bt)(w:af)(cs:Array ag):aP t (w.alloc (.cells cs t)) w.heap.size cs:=heap_alloc_new w _
def aP.alloc(h:aP t w b cs)(o:Obj):aP t (w.alloc o) b cs:=(fV _ _ _ h.lt).trans h
def aP.other{o:Nat}(h:aP t w r cs)(hne:r≠b):aP t (w.setCell ⟨b,o,none⟩ v) r cs:=(eC _ _ _ _ hne).trans h
def aP.set{o:Nat}(h:aP t w b cs):aP t (w.setCell ⟨b,o,none⟩ v) b (cs.setIfInBounds o v):=heap_setCell_same w b o _ t _ h
def aP.range{o:Nat}{l:List ag}(h:aP t w b cs)(hl:∀j v,l[j]?=some v->cs[o+j]?=some v):w.rangeAt b o l:=fun j v hv=>(h.cell _).trans (hl j v hv)
end
structure gG(b:Nat)(w w':af):Prop where
 size:w'.heap.size=w.heap.size
 other:∀r,r≠b->w'.heap[r]?=w.heap[r]?
 below:∀B w0,B<=b->Below B w0 w->Below B w0 w'
def gG.row{r:Nat}{w':af}(h:gG b w w')(hr:aP t w r cs)(hne:r≠b):aP t w' r cs:=(h.other r hne).trans hr
def qf(t:bt)(x:aU)(ho:o.op=.load t x)(hw:bj o (dy ops a.tmps)=true)(b:Nat)(hx:a.eval x=V (some ⟨b,0,none⟩))(cs:Array ag)(h:aP t w b cs)(d:TypeDesc)(hu:ah.underlying t=some d)(hd:d.isRow=true)(hi:(ah.info? t).map (·.size)=some cs.size)(hr:aM ah ops Q rest (a.put o.dst (.agg cs)) w):aM ah ops Q (o::rest) a w:=
 gV fun K hK=>by
  rw[aZ hw]
  exact wp_load_mid t x ho b 0 hx cs.toList d (h.range (fun j v hv=>by rw[bX];simpa using hv)) hu hd (by simpa using hi) (by simpa using hK _ _ hr)
def lx{Q : Exit -> Act -> af -> Prop}(t : bt)(x : aU)(cs : Array ag)(h : aP t w b cs)(hr : aM ah ops Q rest (a.put o.dst (.agg cs)) w)(ho : o.op = .load t x := by exact rfl)(hx : a.eval x = V (some ⟨b, 0, none⟩) := by exact rfl)(hw : bj o (dy ops a.tmps) = true := by kernel_rfl)(hu : (ah.underlying t).map (·.isRow) = some true := by kernel_rfl)(hi : (ah.info? t).map (·.size) = some cs.size := by kernel_rfl): aM ah ops Q (o::rest) a w := by
  obtain⟨d, h1, h2⟩ := Option.map_eq_some_iff.1 hu
  exact qf t x ho hw b hx cs h d h1 h2 hi hr
def qT(t:bt)(hgd:o.guard=none)(x y:aU)(ho:o.op=.store t x y)(b:Nat)(hx:a.eval x=V (some ⟨b,0,none⟩))(cs:Array ag)(hy:a.eval y=.agg cs)(old:Array ag)(h:aP t w b old)(hs:old.size=cs.size)(hi:(ah.info? t).map (·.size)=some cs.size)(h1:cs.all (·.oneCell')=true)(hr:∀w',aP t w' b cs->gG b w w'->aM ah ops Q rest (a.put o.dst gW) w'):aM ah ops Q (o::rest) a w:=
 bP hgd fun K hK=>by
  have hst:=run_storeVar_row (P:=ah) w b t t old cs h hi hs h1
  unfold kU bG
  simp only[ho,hx,hy,Instr.storeAt,Instr.sureAddr,bB,bH,bF,hst]
  exact hK _ _ (hr _ (setRow_heap w b old _ _ _ h) ⟨by simp,fun r hne=>setRow_other w b r _ hne,fun B w0 hB hb=>below_setRow hb hB _⟩)
def sx{Q : Exit -> Act -> af -> Prop}{t : bt}{x y : aU}(cs : Array ag)(h : aP t w b old)(hr : ∀w', aP t w' b cs -> gG b w w' -> aM ah ops Q rest (a.put o.dst gW) w')(hgd : o.guard = none := by exact rfl)(ho : o.op = .store t x y := by exact rfl)(hx : a.eval x = V (some ⟨b, 0, none⟩) := by exact rfl)(hy : a.eval y = .agg cs := by exact rfl)(hs : old.size = cs.size := by kernel_rfl)(hi : (ah.info? t).map (·.size) = some cs.size := by kernel_rfl)(h1 : cs.all (·.oneCell') = true := by kernel_rfl): aM ah ops Q (o::rest) a w := qT t hgd x y ho b hx cs hy old h hs hi h1 hr
def qa2(t:bt)(hgd:o.guard=none)(ho:o.op=.alloc t)(cs:Array ag)(hz:∀w:af,(eM t).run ah w=.ok (.agg cs) w)(hr:∀b w',w.heap.size<=b->aP t w' b cs->Below w.heap.size w w'->aM ah ops Q rest (a.put o.dst (V (some ⟨b,0,none⟩))) w'):aM ah ops Q (o::rest) a w:=
 bP hgd fun K hK=>by
  have h':=hr w.heap.size (w.alloc (.cells cs t)) (au _) (aP.new t w cs) ((cA _ _).alloc (au _) _)
  unfold kU bG
  simp[ho,Instr.alloc,newVar,hz w,Result.andThen,Value.cells]
  simp[go_sem]
  exact hK _ _ h'
def ay{Q : Exit -> Act -> af -> Prop}(t : bt)(hz : ∀w : af, (eM t).run ah w = .ok (.agg cs) w)(hr : ∀b w', w.heap.size <= b -> aP t w' b cs -> Below w.heap.size w w' -> aM ah ops Q rest (a.put o.dst (V (some ⟨b, 0, none⟩))) w')(hgd : o.guard = none := by exact rfl)(ho : o.op = .alloc t := by exact rfl): aM ah ops Q (o::rest) a w := qa2 t hgd ho cs hz hr
def qag(t:bt)(hgd:o.guard=none)(x:aU)(ho:o.op=.box t x)(cs:Array ag)(hx:a.eval x=.agg cs)(hr:∀b w',w.heap.size<=b->aP t w' b cs->Below w.heap.size w w'->aM ah ops Q rest (a.put o.dst (V (some ⟨b,0,none⟩))) w'):aM ah ops Q (o::rest) a w:=
 bP hgd fun K hK=>by
  have h':=hr w.heap.size (w.alloc (.cells cs t)) (au _) (aP.new t w cs) ((cA _ _).alloc (au _) _)
  unfold kU bG
  simp only[ho,hx,Instr.box,newVar,Value.cells]
  simp[go_sem]
  exact hK _ _ h'
def bx{Q : Exit -> Act -> af -> Prop}(t : bt)(x : aU)(cs : Array ag)(hr : ∀b w', w.heap.size <= b -> aP t w' b cs -> Below w.heap.size w w' -> aM ah ops Q rest (a.put o.dst (V (some ⟨b, 0, none⟩))) w')(hgd : o.guard = none := by exact rfl)(ho : o.op = .box t x := by exact rfl)(hx : a.eval x = .agg cs := by exact rfl): aM ah ops Q (o::rest) a w := qag t hgd x ho cs hx hr
def uD(hf:fn.results=#[.cell p t,.tmp u])(tmps:Array ag)(w:af)(b:Nat)(cs:Array ag)(hp:tmps.getD p gW=V (some ⟨b,0,none⟩))(h:aP t w b cs)(d:TypeDesc)(hu:ah.underlying t=some d)(hd:d.isRow=true)(hi:(ah.info? t).map (·.size)=some cs.size):
  (eQ fn tmps).run ah w=.ok (.tuple #[.agg cs,tmps.getD u gW]) w:=by
 refine UM ?_;intro qm hl
 simp only[lX] at hl
 simp[eQ,hf,qm,asAddr,hl]
def mW(hf:fn.results=#[.cell p t])(tmps:Array ag)(w:af)(b:Nat)(cs:Array ag)(hp:tmps.getD p gW=V (some ⟨b,0,none⟩))(h:aP t w b cs)(d:TypeDesc)(hu:ah.underlying t=some d)(hd:d.isRow=true)(hi:(ah.info? t).map (·.size)=some cs.size):
  (eQ fn tmps).run ah w=.ok (.agg cs) w:=by
 refine UM ?_;intro qm hl
 simp only[lX] at hl
 simp[eQ,hf,qm,asAddr,hl]
def UN{v:Tmp}(hf:fn.results=#[.cell p t,.tmp u,.tmp v])(tmps:Array ag)(w:af)(b:Nat)(cs:Array ag)(hp:tmps.getD p gW=V (some ⟨b,0,none⟩))(h:aP t w b cs)(d:TypeDesc)(hu:ah.underlying t=some d)(hd:d.isRow=true)(hi:(ah.info? t).map (·.size)=some cs.size):
  (eQ fn tmps).run ah w=.ok (.tuple #[.agg cs,tmps.getD u gW,tmps.getD v gW]) w:=by
 refine UM ?_;intro qm hl
 simp only[lX] at hl
 simp[eQ,hf,qm,asAddr,hl]
def zX(t:bt)(x y:aU)(ho:o.op=.binOp .eql t x y t)(hw:bj o (dy ops a.tmps)=true)(xs ys:Array ag)(hx:a.eval x=.agg xs)(hy:a.eval y=.agg ys)(hg:ah.eqGuardType ah.depth t=false)(r q:Bool)(he:(Op.equalIn 10000 t (.agg xs) (.agg ys)).run ah w=.ok r w)(hq:r=q)(hr:aM ah ops Q rest (a.put o.dst (.bool q)) w):aM ah ops Q (o::rest) a w:=
 gV fun K hK=>by
  rw[aZ hw]
  subst hq
  unfold kU bG
  simp only[ho,hx,hy,bB,run_eqGuard_agg w .eql t x y xs ys hg,run_eql_struct,he,bF,bH]
  exact hK _ _ hr
def UO(t:bt)(x y:aU)(ho:o.op=.binOp .neq t x y t)(hw:bj o (dy ops a.tmps)=true)(xs ys:Array ag)(hx:a.eval x=.agg xs)(hy:a.eval y=.agg ys)(hg:ah.eqGuardType ah.depth t=false)(r q:Bool)(he:(Op.equalIn 10000 t (.agg xs) (.agg ys)).run ah w=.ok r w)(hq:(!r)=q)(hr:aM ah ops Q rest (a.put o.dst (.bool q)) w):aM ah ops Q (o::rest) a w:=
 gV fun K hK=>by
  rw[aZ hw]
  subst hq
  unfold kU bG
  simp only[ho,hx,hy,bB,run_eqGuard_agg w .neq t x y xs ys hg,run_neq_struct,he,bF,bH]
  exact hK _ _ hr
def rA(t:bt)(x:aU)(ho:o.op=.load t x)(hw:bj o (dy ops a.tmps)=true)(b:Nat)(hx:a.eval x=V (some ⟨b,0,none⟩))(cs:Array ag)(hS:∀w,S w->aP t w b cs)(d:TypeDesc)(hu:ah.underlying t=some d)(hd:d.isRow=true)(hi:(ah.info? t).map (·.size)=some cs.size):gf ah ops S o (.agg cs) a:=by
 have:=yieldsIf_load_mid (P:=ah) (S:=S) hw t x ho b 0 hx cs.toList d (fun w h=>(hS w h).range (fun j v hv=>by rw[bX];simpa using hv)) hu hd (by simpa using hi)
 omega
def yx{S : af -> Prop}{t : bt}{x : aU}{cs : Array ag}(hS : ∀w, S w -> aP t w b cs)(ho : o.op = .load t x := by exact rfl)(hw : bj o (dy ops a.tmps) = true := by kernel_rfl)(hx : a.eval x = V (some ⟨b, 0, none⟩) := by kernel_rfl)(hu : (ah.underlying t).map (·.isRow) = some true := by kernel_rfl)(hi : (ah.info? t).map (·.size) = some cs.size := by kernel_rfl): gf ah ops S o (.agg cs) a := by
  obtain⟨d, h1, h2⟩ := Option.map_eq_some_iff.1 hu
  exact rA t x ho hw b hx cs hS d h1 h2 hi
def qhd(t:bt)(x y:aU)(ho:o.op=.binOp .eql t x y t)(hw:bj o (dy ops a.tmps)=true)(xs ys:Array ag)(hx:a.eval x=.agg xs)(hy:a.eval y=.agg ys)(hg:ah.eqGuardType ah.depth t=false)(r q:Bool)(he:∀w:af,(Op.equalIn 10000 t (.agg xs) (.agg ys)).run ah w=.ok r w)(hq:r=q):gf ah ops S o (.bool q) a:=
 .inl ⟨hw,fun w _=>by
  subst hq
  unfold bG
  simp only[ho,hx,hy,bB,run_eqGuard_agg w .eql t x y xs ys hg,run_eql_struct,he w,bF,bH]⟩
def I5(k:Nat)(t:bt)(hk:o.dst=some k)(hgd:o.guard=none)(ho:o.op=.alloc t)(cs:Array ag)(hz:∀w:af,(eM t).run ah w=.ok (.agg cs) w)(hr:∀b w',w.heap.size<=b->aP t w' b cs->Below w.heap.size w w'->aM ah ops Q rest (a.put o.dst (V (some ⟨b,0,none⟩))) w'):aM ah ops Q (o::rest) a w:=qa2 t hgd ho cs hz hr
def ax{Q : Exit -> Act -> af -> Prop}(k : Nat)(t : bt)(hz : ∀w : af, (eM t).run ah w = .ok (.agg cs) w)(hr : ∀b w', w.heap.size <= b -> aP t w' b cs -> Below w.heap.size w w' -> aM ah ops Q rest (a.put o.dst (V (some ⟨b, 0, none⟩))) w')(hk : o.dst = some k := by exact rfl)(hgd : o.guard = none := by exact rfl)(ho : o.op = .alloc t := by exact rfl): aM ah ops Q (o::rest) a w := I5 k t hk hgd ho cs hz hr
def UQ{K:Act->af->Prop}(t:bt)(x y:aU)(ho:o.op=.store t x y)(b:Nat)(hx:a.eval x=V (some ⟨b,0,none⟩))(cs:Array ag)(hy:a.eval y=.agg cs)(old:Array ag)(h:aP t w b old)(hs:old.size=cs.size)(hi:(ah.info? t).map (·.size)=some cs.size)(h1:cs.all (·.oneCell')=true)(hr:∀w',aP t w' b cs->gG b w w'->K (a.put o.dst gW) w'):o.wp ah a w K Q:=by
 have hst:=run_storeVar_row (P:=ah) w b t t old cs h hi hs h1
 unfold kU bG
 simp only[ho,hx,hy,Instr.storeAt,Instr.sureAddr,bB,bH,bF,hst]
 exact hr _ (setRow_heap w b old _ _ _ h) ⟨by simp,fun r hne=>setRow_other w b r _ hne,fun B w0 hB hb=>below_setRow hb hB _⟩
def sy{K : Act -> af -> Prop}{Q : Exit -> Act -> af -> Prop}{t : bt}{x y : aU}(cs : Array ag)(h : aP t w b old)(hr : ∀w', aP t w' b cs -> gG b w w' -> K (a.put o.dst gW) w')(ho : o.op = .store t x y := by exact rfl)(hx : a.eval x = V (some ⟨b, 0, none⟩) := by kernel_rfl)(hy : a.eval y = .agg cs := by kernel_rfl)(hs : old.size = cs.size := by kernel_rfl)(hi : (ah.info? t).map (·.size) = some cs.size := by kernel_rfl)(h1 : cs.all (·.oneCell') = true := by kernel_rfl): o.wp ah a w K Q := UQ t x y ho b hx cs hy old h hs hi h1 hr
def GL(b o:Nat)(v:ag)(w:af):gG b w (w.setCell ⟨b,o,none⟩ v):=⟨by simp,fun r hne=>eC _ _ _ _ hne,fun B w0 hB hb=>hb.setCell hB v⟩
def o6(R:aP t w b cs)(x:aU)(ho:o.op=.load 3 x)(hw:bj o (dy ops a.tmps)=true)(f:Nat)(hx:a.eval x=V (some ⟨b,f,none⟩))(n:Int)(hc:cs[f]?=some (I Z n))(hr:aM ah ops Q rest (a.put o.dst (I Z n)) w):aM ah ops Q (o::rest) a w:=
 gV fun K hK=>by
  rw[aZ hw];have hcell:=(R.cell f).trans hc
  unfold kU bG
  simp only[ho,hx]
  simp[go_sem,hcell,underlying3]
  exact hK _ _ hr
def fx{Q : Exit -> Act -> af -> Prop}(R : aP t w b cs){x : aU}{f : Nat}(n : Int)(hr : aM ah ops Q rest (a.put o.dst (I Z n)) w)(ho : o.op = .load 3 x := by exact rfl)(hx : a.eval x = V (some ⟨b, f, none⟩) := by exact rfl)(hc : cs[f]? = some (I Z n) := by exact rfl)(hw : bj o (dy ops a.tmps) = true := by kernel_rfl): aM ah ops Q (o::rest) a w := o6 R x ho hw f hx n hc hr
def wF(R:aP t w b cs)(hgd:o.guard=none)(x y:aU)(ho:o.op=.store 3 x y)(f:Nat)(hx:a.eval x=V (some ⟨b,f,none⟩))(n:Int)(hy:a.eval y=I Z n)(m:Int)(hc:cs[f]?=some (I Z m))(ds:Array ag)(hd:cs.setIfInBounds f (I Z n)=ds)(hr:∀w',aP t w' b ds->gG b w w'->aM ah ops Q rest (a.put o.dst gW) w'):aM ah ops Q (o::rest) a w:=
 bP hgd fun K hK=>by
  have hcell:=(R.cell f).trans hc;have oB:=R.free f
  unfold kU bG
  simp only[ho,hx,hy]
  simp[go_sem,hcell,oB,underlying3]
  exact hK _ _ (hr _ (hd▸R.set) (GL _ _ _ _))
def lQ{k:IntKind}{a b:Int}(h:a=b):Ending.returned (.int k a)=.returned (.int k b):=by rw[h]
theorem Ek(n:Int):aS.wrap n=n%65536:=by
 simp[jH,jI,iB]
def XV(a b:Int)(w:af)(a0:0<=a)(a1:a<=65535)(b0:0<=b)(b1:b<=65535):
  az ah 173 #[.int .u16 a,.int .u16 b] w fun e w'=>e=.returned (.int .u16 (bk (a+b)))/\w'=w:=by
 have h:=q9w a b a0 a1 b0 b1;have H:Hid (((a+b)%65536+(a+b)/65536)%65536=bk (a+b)):=h;clear h
 go_enter func173,ntmps173
 go_wp2
 go_ret
 exact⟨lQ (by rw[Ek,Ek];exact H.out),rfl⟩
def XW(a:Int)(w:af)(h:0<=a)(hm:a<=9223372036854775807):
  az ah 165 #[I Z a] w fun e w'=>e=.returned (I Z (bk a))/\w'=w:=by
 by_cases h0:a=0
 .subst h0
  go_enter func165,ntmps165
  go_wp2
  go_ret
  exact⟨lQ rfl,rfl⟩
 ·(have h1:1<=a:=by omega)
  go_enter func165,ntmps165
  go_wp2
  go_ret
  exact⟨lQ (by unfold bk;rw[aT h0]),rfl⟩
def q6g(a b:UInt8):bits .or .u16 (aS.wrap (aS.wrap (a.toNat:Int)*256)) (aS.wrap (b.toNat:Int))=(a.toNat:Int)*256+(b.toNat:Int):=by
 have ha:=a.toNat_lt;have hb:=b.toNat_lt;(have e1:aS.wrap (aS.wrap (a.toNat:Int)*256)=((a.toNat*256:Nat):Int):=by rw[Ek,Ek];omega);(have e2:aS.wrap (b.toNat:Int)=((b.toNat:Nat):Int):=by rw[Ek];omega)
 rw[e1,e2,u16_or_nat _ _ om om,nat_join 8 _ _ om om];omega
theorem q47(a:UInt8):aS.wrap (aS.wrap (a.toNat:Int)*256)=(a.toNat:Int)*256:=by
 have ha:=a.toNat_lt
 grind [Ek]
def qyo(s:ByteArray)(k:Nat)(w:af)(hs:s.size<=562949953421312)(h:k<s.size)(h1:k+1<s.size):
  az ah 174 #[.string s,I Z k] w fun e w'=>e=.returned (.int .u16 ((s[k].toNat:Int)*256+(s[k+1].toNat:Int)))/\w'=w:=by
 go_enter func174,ntmps174
 go_wp2
 go_ret
 exact⟨lQ (q6g _ _),rfl⟩
def qyp(s:ByteArray)(k:Nat)(w:af)(hs:s.size<=562949953421312)(h:k<s.size)(h1:¬k+1<s.size):
  az ah 174 #[.string s,I Z k] w fun e w'=>e=.returned (.int .u16 ((s[k].toNat:Int)*256))/\w'=w:=by
 go_enter func174,ntmps174
 go_wp2
 go_ret
 exact⟨lQ (q47 _),rfl⟩
def zY{p:Prop}(h:p:=by
 go_round
 case rel=>exact⟨k+2,by omega,by omega,by go_num,by rw[HW.out,HB.out]⟩
 case measure=>simp[intOf];omega):p:=h
theorem XX(s:ByteArray)(w:af)(hs:s.size<=562949953421312):
  az ah 123 #[.string s] w fun e w'=>e=.returned (I Z (bk (bJ s.data.toList)))/\w'=w:=by
 go_enter func123,ntmps123
 go_wp2
 go_loop [3,4] (fun t i=>∃k:Nat,k%2=0/\k<=s.size+1/\i=I Z k/\t=.int .u16 (bk (bJ (s.data.toList.take k)))) (fun _ i=>s.size+1-(intOf i).toNat)
 case atStart=>exact⟨0,by omega,by omega,rfl,by simp[bJ,bk]⟩
 case round=>
  obtain⟨k,hk2,hk,rfl,rfl⟩:=hrel
  have hb:=uT (bJ (s.data.toList.take k));have h0:=UJ (s.data.toList.take k)
  by_cases hlt:k<s.size
  .by_cases tN:k+1<s.size
   .have HW:Hid (bJ (s.data.toList.take (k+2))=bJ (s.data.toList.take k)+((s[k].toNat:Int)*256+(s[k+1].toNat:Int))):=q4x s k hk2 tN;have c0:=xQ s[k];have c1:=xQ s[k+1];have HB:Hid (bk (bk (bJ (s.data.toList.take k))+((s[k].toNat:Int)*256+(s[k+1].toNat:Int)))=bk (bJ (s.data.toList.take k)+((s[k].toNat:Int)*256+(s[k+1].toNat:Int)))):=uB _ _ h0 om
    go_wp2_with (first|(go_at_call 174;refine(qyo s k _ hs hlt tN).mono ?_;rintro e w' ⟨rfl,rfl⟩)|(go_at_call 173;refine(XV _ _ _ om om om om).mono ?_;rintro e w' ⟨rfl,rfl⟩))
    exact zY
   .have HW:Hid (bJ (s.data.toList.take (k+2))=bJ (s.data.toList.take k)+(s[k].toNat:Int)*256):=q63 s k hk2 hlt tN;have c0:=xQ s[k];have HB:Hid (bk (bk (bJ (s.data.toList.take k))+(s[k].toNat:Int)*256)=bk (bJ (s.data.toList.take k)+(s[k].toNat:Int)*256)):=uB _ _ h0 om
    go_wp2_with (first|(go_at_call 174;refine(qyp s k _ hs hlt tN).mono ?_;rintro e w' ⟨rfl,rfl⟩)|(go_at_call 173;refine(XV _ _ _ om om om om).mono ?_;rintro e w' ⟨rfl,rfl⟩))
    exact zY
  .have HA:Hid (bJ (s.data.toList.take k)=bJ s.data.toList):=q8k s k om
   go_wp2
   go_ret
   exact⟨lQ (by rw[HA.out]),rfl⟩
section
variable {ops:Array Oper} {S:World->Prop} {o:Oper} {a:Act}
def pC(x:aU)(v:ag)(ho:o.op=.move x)(hw:bj o (dy ops a.tmps)=true)(hx:a.eval x=v):gf ah ops S o v a:=
 .inl ⟨hw,fun w _=>by unfold bG;simp only[ho,hx,bB,bH,bF]⟩
def UR(t:bt)(x y:aU)(n m:Int)(b:Bool)(ho:o.op=.binOp .neq t x y t)(hw:bj o (dy ops a.tmps)=true)(hx:a.eval x=I Z n)(hy:a.eval y=I Z m)(hb:(n != m)=b):gf ah ops S o (.bool b) a:=
 .inl ⟨hw,fun w _=>by unfold bG;simp only[ho,hx,hy];simp[go_sem,hb,eqGuard]⟩
end
def XY(w:af)(c:UInt8)(x:Int)(hx:x=(c.toNat:Int)):(convert 131 9 (.slice (some ⟨w.heap.size,0,none⟩) 1 1)).run ah (w.alloc (.cells #[.int .u8 x] 5))=.ok (.string ⟨#[c]⟩) (w.alloc (.cells #[.int .u8 x] 5)):=by
 subst hx
 refine run_convert_bytes_back (P:=ah) (w.alloc (.cells #[.int .u8 (c.toNat:Int)] 5)) 131 9 5 ⟨w.heap.size,0,none⟩ 1 [c] underlying131 underlying5 underlying9 ?_;intro j hj;(have hj':j=0:=by simp at hj;omega)
 subst hj'
 exact World.cell?_alloc_mark w #[.int .u8 (c.toNat:Int)] 5 (0,0) 0
def tO(v:Int)(n:Nat)(w:af)(h0:0<=v)(h1:v<=9223372036854775807)(hn:n<=8):
  az ah 103 #[I Z v,I Z (n:Int)] w fun e w'=>e=.returned (.string (bl (be v n)))/\Below w.heap.size w w':=by
 go_enter func103,ntmps103
 go_wp2
 go_loopw [0,1,5] (fun x m s W=>∃k:Nat,k<=n/\x=I Z (hi v k)/\m=I Z ((n-k:Nat):Int)/\s=.string (bl (be v k))/\Below w.heap.size w W) (fun _ m _ _=>(intOf m).toNat)
 case atStart=>exact⟨0,by omega,rfl,by simp,rfl,cA _ _⟩
 case round=>
  obtain⟨k,hk,rfl,rfl,rfl,hB⟩:=hrel
  obtain⟨b0,b1⟩:=XP v h0 h1 k
  by_cases hlt:k<n
  .have HB:Hid (be v (k+1)=[b8 (hi v k)]++be v k):=XR v k;(have hx:iJ.wrap (hi v k%256)=((b8 (hi v k)).toNat:Int):=by rw[GK,qR];omega);(have hc:=fun W=>XY W (b8 (hi v k)) _ rfl);(have hsz:(bl (be v k)).size=k:=by rw[kY,nO]);(have hs:((n-k:Nat):Int)-1=((n-(k+1):Nat):Int):=by omega)
   go_wp2
   go_roundw
   case rel=>exact⟨k+1,by omega,rfl,rfl,by rw[HB.out,XS],hB.alloc hB.size _⟩
   case measure=>simp[intOf];omega
  ·(have e:k=n:=by omega)
   subst e
   go_wp2
   go_ret
   exact⟨rfl,hB⟩
def P5(s:ByteArray)(w:af):∃(C:Array ag) (cap:Nat),
  (convert 9 131 (.string s)).run ah w=.ok (.slice (some ⟨w.heap.size,0,none⟩) s.size cap) (w.drew.alloc (.cells C 5 (C.size,C.size+1)))/\
  ∀(j:Nat) (h:j<s.size),(w.alloc (.cells C 5 (C.size,C.size+1))).cell? ⟨w.heap.size,j,none⟩=some (.int .u8 (s[j].toNat:Int)):=by
 refine⟨_,_,run_bytes_of_string w 9 131 5 s underlying9 underlying131 underlying5,fun j h=>?_⟩
 exact(World.cell?_alloc_mark w _ 5 _ j).trans (bytesRow_at s _ j (by simpa using h))
end
end Go.Proofs.YtnkpgdejagglaaaGreatDoor
