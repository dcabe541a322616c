/-
  Of what a law stands on.
-/
import Derived.Test.YtnkpgdejagglaaaGreatDoorZyk1
import Derived.Test.YtnkpgdejagglaaaGreatDoorZyd4
import Derived.Test.YtnkpgdejagglaaaGreatDoorZyt2
set_option linter.all false
namespace Go.Proofs.YtnkpgdejagglaaaGreatDoor
open _root_.ByteArray renaming empty->ak
open _root_.Go renaming Value->ag,World->af
open _root_.Go.Proofs.Tryz renaming prog->ah
open _root_.Go.RowKit renaming Below->aq,Hid->aK,wrap64->bK
open _root_.List renaming find?_append->o5,getElem?_eq_some_iff->aJ,map_cons->aB,map_nil->aI,range->aA,set_cons_succ->aR,set_cons_zero->aQ,take_length->bn,take_succ_eq_append_getElem->bz
open _root_.List.cons renaming injEq->aO
open _root_.List.range renaming loop->aF
open Go.Value renaming int → I,pointer → V
open Go.IntKind renaming i64 → Z
open _root_.Go.Proofs.Tryz
set_option maxHeartbeats 16000000
set_option maxRecDepth 100000
variable {q r s t y:Operand}{z:Value}{b ii c j n:Nat}{x:Nat×Fl}{p:Prop}{fs:List (Nat×Fl)}{ms:List Mp}{W w:World}{R:Ending->World->Prop}{Q:Exit->Act->World->Prop}{a:Int}{k:Ac}{K:Act->World->Prop}{G:Nat->Prop}{F Iq T:Sl}{o:MF}
theorem nzA{p q:Prop}(k:q)(h:K9 q->p:=by intro aD;(try (conv=>arg 5;simp only[Act.put,List.setIfInBounds_toArray,List.set_cons_zero,List.set_cons_succ]));exact aD.o):p:=h ⟨k⟩
section
open Go.ChangeShapes Go.WideShapes Go.ChangeAt Go.RowKit Go.Maps
section
variable {ops:Array Oper} {rest:List Oper} {Q:Exit->Act->World->Prop} {K:Act->World->Prop} {R:List Cp} {lt:List Nat} {i n k:Nat} {o oi:Oper} {l:Array Bool} {a:Act} {w w0:World} {F0:Nat->Prop} {L:List Cp} {v:Value} {x y s:Operand} {t t' e st:TypeId} {c f m g cap:Nat} {cs ys:Array Value} {xs zs:List Value}
def dEp(i:Nat){q:Nat}(B:Dz F0 w0 w L)(hl:(xs.drop f).take q=ys.toList)(hr:wpList prog ops Q rest (a.put o.dst (.agg ys)) w)(ho:o.op=.load t' x:=by exact rfl)(hx:a.eval x=V (some ⟨g,f,none⟩):=by exact rfl)(hi:L[i]?=some (cL e m (.slice (some ⟨g,0,none⟩) n cap) n xs):=by exact rfl)(hu:(prog.underlying t').map TypeDesc.isRow=some true:=by kernel_rfl)(hs:(prog.info? t').map (·.size)=some ys.size:=by kernel_rfl)(hw:Region.wanted o (yielded ops a.tmps)=true:=by kernel_rfl)(hq:Nat.beq q ys.size=true:=by kernel_rfl):wpList prog ops Q (o::rest) a w:=by
 obtain⟨cur,B',h4,_⟩:=B.rc hi
 have hlt:=(List.getElem?_eq_some_iff.1 hi).1
 rw[Nat.eq_of_beq_eq_true hq] at hl
 (have hl':(xs.drop f).take ys.toList.length=ys.toList:=by simpa using hl)
 exact wpList_step fun K hK=>by rw[aZ hw];exact km (f:=f) (B'.row (t:=e) (cs:=cur) i (by simp[hlt])) ys.toList ho hx (My h4 hl') hu (by simpa using hs) (hK _ _ hr)
def Dz.cell{u:Value}(B:Dz F0 w0 w L)(i:Nat)(j:Nat)(hj:xs[j]?=some u)(hi:L[i]?=some (cL e m (.slice (some ⟨g,0,none⟩) n cap) n xs):=by exact rfl):w.cell? ⟨g,j,none⟩=some u:=by
 obtain⟨cur,B',h4,_⟩:=B.rc hi
 have hlt:=(List.getElem?_eq_some_iff.1 hi).1;have R:aP e w g cur:=B'.row i (by simp[hlt]);rw[R.cell]
 have:=(List.getElem?_eq_some_iff.1 hj).1
 rw[←h4,List.getElem?_take] at hj
 split at hj
 .simpa using hj
 .cases hj
theorem qdL(hst:ah.underlying st=some (.slice e))(b n c k:Nat)(hk:k<=n)(hn:n<=c)(w:af)(hs:∀w:af,(sizeOf e).run ah w=.ok m w):(Instr.slice st (.slice (some ⟨b,0,none⟩) n c) none (some (I Z (k:Int))) none).run ah w=.ok (.slice (some ⟨b,0,none⟩) k c) w:=by
 (have h1:(k:Int)<=(c:Int):=by omega);(have h2:¬(c:Int)<(k:Int):=by omega)
 simp[go_sem,hst,hs w,h1,h2]
def O0(m c k:Nat):Nat:=if c=k then 0 else k*m
theorem qdM(hst:ah.underlying st=some (.slice e))(b n c k:Nat)(hk:k<=n)(hn:n<=c)(w:af)(hs:∀w:af,(sizeOf e).run ah w=.ok m w):(Instr.slice st (.slice (some ⟨b,0,none⟩) n c) (some (I Z (k:Int))) none none).run ah w=.ok (.slice (some ⟨b,O0 m c k,none⟩) (n-k) (c-k)) w:=by
 (have h1:(k:Int)<=(n:Int):=by omega);(have h2:¬(n:Int)<(k:Int):=by omega)
 simp[go_sem,hst,hs w,h1,h2]
 unfold O0
 by_cases hc:c=k
 .rw[aZ hc,aZ hc]
 .rw[aT hc,aT hc]
def Sw(hl:xs.length=n*m)(hk:k<=n)(hn:n<=c):(xs.drop (O0 m c k)).take ((n-k)*m)=xs.drop (k*m):=by
 unfold O0
 split
 .rename_i h
  obtain rfl:n=k:=by omega
  rw[Nat.sub_self,Nat.zero_mul,List.take_zero,List.drop_of_length_le om]
 .rw[List.take_of_length_le (by rw[List.length_drop,hl,Nat.sub_mul];exact Nat.le_refl _)]
theorem Sx(hst:ah.underlying st=some (.slice e))(v:ag)(lo hi mx:Option ag)(w:af):(Instr.sliceAt st v lo hi mx).run ah w=(Instr.slice st v lo hi mx).run ah w:=by
 simp[Instr.sliceAt,run_underlying hst]
def dTh(i:Nat)(h:jo ops Q (fE R) lt n (l.setIfInBounds i true) (a.put oi.dst (.slice (some ⟨g,0,none⟩) k c)) w)(hk:k<=m)(hn:m<=c)(hi:ops[i]?=some oi:=by exact rfl)(ho:oi.op=.slice st x none (some y) none:=by exact rfl)(hx:a.eval x=.slice (some ⟨g,0,none⟩) m c:=by exact rfl)(hy:a.eval y=I Z (k:Int):=by exact rfl)(hst:prog.underlying st=some (.slice e):=by kernel_rfl)(hz:∀w:World,(sizeOf e).run prog w=.ok f w:=by exact fun _=>by kernel_rfl)(hw:Region.wanted oi (yielded ops a.tmps)=true:=by kernel_rfl)(hs:Region.noSelect ops=true:=by kernel_rfl)(hf:Region.free .any ops l i=true:=by kernel_rfl)(hr:(Region.ready .any ops l).contains i=true:=by kernel_rfl)(hQ:∀c' a' w',Q (.panic c') (a'.put oi.dst (.slice (some ⟨g,0,none⟩) k c)) w'->Q (.panic c') a' w':=by exact fun _ _ _ h=>h):jo ops Q (fE R) lt (n+1) l a w:=
 OX (is:=[]) h hi (.inl ⟨hw,fun w _=>by unfold execOp;simp only[ho,Option.map_some,Option.map_none,hx,hy,Sem.run_bind,Sx hst,qdL hst g m c k hk hn w hz,Result.andThen_ok,Sem.run_pure]⟩) hs hf hr hQ
def dTt(i:Nat)(h:jo ops Q (fE R) lt n (l.setIfInBounds i true) (a.put oi.dst (.slice (some ⟨g,O0 f c k,none⟩) (m-k) (c-k))) w)(hk:k<=m)(hn:m<=c)(hi:ops[i]?=some oi:=by exact rfl)(ho:oi.op=.slice st x (some y) none none:=by exact rfl)(hx:a.eval x=.slice (some ⟨g,0,none⟩) m c:=by exact rfl)(hy:a.eval y=I Z (k:Int):=by exact rfl)(hst:prog.underlying st=some (.slice e):=by kernel_rfl)(hz:∀w:World,(sizeOf e).run prog w=.ok f w:=by exact fun _=>by kernel_rfl)(hw:Region.wanted oi (yielded ops a.tmps)=true:=by kernel_rfl)(hs:Region.noSelect ops=true:=by kernel_rfl)(hf:Region.free .any ops l i=true:=by kernel_rfl)(hr:(Region.ready .any ops l).contains i=true:=by kernel_rfl)(hQ:∀c' a' w',Q (.panic c') (a'.put oi.dst (.slice (some ⟨g,O0 f c k,none⟩) (m-k) (c-k))) w'->Q (.panic c') a' w':=by exact fun _ _ _ h=>h):jo ops Q (fE R) lt (n+1) l a w:=
 OX (is:=[]) h hi (.inl ⟨hw,fun w _=>by unfold execOp;simp only[ho,Option.map_some,Option.map_none,hx,hy,Sem.run_bind,Sx hst,qdM hst g m c k hk hn w hz,Result.andThen_ok,Sem.run_pure]⟩) hs hf hr hQ
def Sy(i j:Nat)(hc:xs[f]?=some v)(h:jo ops Q (fE R) lt n (l.setIfInBounds i true) (a.put oi.dst v) w)(hi:ops[i]?=some oi:=by exact rfl)(ho:oi.op=.load t' x:=by exact rfl)(hx:a.eval x=V (some ⟨g,f,none⟩):=by exact rfl)(hj:R[j]?=some (cL e m (.slice (some ⟨g,0,none⟩) k cap) k xs):=by exact rfl)(hu:(prog.underlying t').map TypeDesc.isRow=some false:=by kernel_rfl)(hw:Region.wanted oi (yielded ops a.tmps)=true:=by kernel_rfl)(hS:fE R w:=by exact A)(hs:Region.noSelect ops=true:=by kernel_rfl)(hf:Region.free .any ops l i=true:=by kernel_rfl)(hr:(Region.ready .any ops l).contains i=true:=by kernel_rfl)(hl:sg ops lt i=true:=by kernel_rfl)(kF:uf ops l=true:=by kernel_rfl)(hQ:∀c a w,Q (.panic c) (a.put oi.dst v) w->Q (.panic c) a w:=by exact fun _ _ _ h=>h):jo ops Q (fE R) lt (n+1) l a w:=
 OY (is:=[]) (yLo (fun w h=>by
  have O:w.ownsRow 0 e m _ k xs:=h.at j hj;obtain⟨h0,hh⟩:=O
  rcases hh with⟨q,_⟩|⟨g',cap',cur,hv,_,hcu,h1,h2,h3,h4⟩
  .cases q
  obtain⟨rfl,rfl⟩:g=g'/\cap=cap':=by injection hv with p q r;injection p with p;injection p with p;exact⟨p,r⟩
  refine⟨e,cur,hcu,?_⟩
  rw[←h4,List.getElem?_take] at hc
  split at hc
  .simpa using hc
  .cases hc) ho hx hw hu) hS h hi hs hf hr hl kF hQ
def VV{n2 c2:Nat}{ys:List Value}(B:Dz F0 w0 w L)(i j:Nat)(hr:∀(S:Sl) w',Dz F0 w0 w' (L.set i (cL e m S.v (n+k) (xs++zs)))->K (a.put o.dst S.v) w')(hz:(ys.drop f).take (k*m)=zs)(hl:zs.length=k*m)(h1:ys.all (·.oneCell')=true)(hn:(n+k)*ii<=140737488355328)(hi:L[i]?=some (cL e m v n xs):=by exact rfl)(hj:L[j]?=some (cL e m (.slice (some ⟨g,0,none⟩) n2 cap) n2 ys):=by exact rfl)(ho:o.op=.call { callee:=.builtin .append,args:=#[s,x],argTypes:=#[st,st] }:=by exact rfl)(hs:a.eval s=v:=by exact rfl)(hx:a.eval x=.slice (some ⟨g,f,none⟩) k c2:=by exact rfl)(hst:prog.underlying st=some (.slice e):=by kernel_rfl)(hf:(prog.info? e).map (fun i=>(i.zero,i.size,i.bytes))=some (some z,m,ii):=by first|exact qzr|exact q3k|exact qyu)(hzs:z.cells.size=m:=by exact rfl)(hm:0<m:=by decide)(hy:0<ii:=by decide):o.wp prog a w K Q:=by
 have O:w.ownsRow 0 e m v n xs:=B.at i hi;obtain⟨i0,q0,q1⟩:=Option.map_eq_some_iff.1 hf
 simp only[Prod.mk.injEq] at q1
 obtain⟨v',w',hrun,h2,h3,h4,h5⟩:=run_append_own_at (P:=prog) w 0 st o.type e i0 z m ii hst q0 q1.1 q1.2.1 q1.2.2 hzs hm v n xs O ⟨g,f,none⟩ k c2 zs hl (fun q u hu=>by
   rw[Addr.add_lit]
   refine B.cell j (f+q) ?_ hj
   rw[←hz,List.getElem?_take] at hu
   split at hu
   .rwa [List.getElem?_drop] at hu
   .cases hu) (fun u hu=>List.all_eq_true.1 h1 u (List.mem_of_mem_drop (List.mem_of_mem_take (hz▸hu)))) (by have:n+k<=(n+k)*ii:=Nat.le_mul_of_pos_right _ hy;unfold maxLen;omega) hn (Nat.zero_le _)
 obtain⟨q,cp,hv⟩:∃q cp,v'=.slice q (n+k) cp:=wO h2
 unfold Oper.wp execOp
 simp only[ho,resolve,invoke,builtin,Sem.run_bind,Sem.run_pure,Result.andThen_ok,List.map_toArray,List.map_cons,List.map_nil,hs,hx,hrun]
 subst hv
 exact hr ⟨q,n+k,cp⟩ w' (B.put i hi _ (Gr.ep h3 fun c hc=>hc) (Bq h2) (fun c hc=>h5.elim (fun e=>.inl (e.symm.trans hc)) (fun e=>.inr (Nat.le_of_eq (Option.some.inj (e.symm.trans hc))))))
def eMi{x:Operand}{t u:TypeId}{pz:Prop}(h:pz)(c:qQ (.call { callee:=.builtin .min,args:=#[x,y],argTypes:=#[t,u] }) pz:=by exact rz (by with_unfolding_none exact rfl) (by with_reducible exact rfl)):pz:=h
def dMn{p q:Int}(hr:wpList prog ops Q rest (a.put o.dst (I Z (min p q))) w)(ho:o.op=.call { callee:=.builtin .min,args:=#[x,y],argTypes:=#[3,3] }:=by exact rfl)(hx:a.eval x=I Z p:=by exact rfl)(hy:a.eval y=I Z q:=by exact rfl)(hgd:o.guard=none:=by exact rfl):wpList prog ops Q (o::rest) a w:=
 wpList_plain hgd fun K hK=>by
  (have e:(if q<p then q else p)=min p q:=by split<;>omega)
  unfold Oper.wp execOp
  simp only[ho,resolve,invoke,builtin,Sem.run_bind,Sem.run_pure,Result.andThen_ok,List.map_toArray,List.map_cons,List.map_nil,hx,hy,run_min_int2]
  rw[e]
  exact hK _ _ hr
theorem qdN(l:ByteArray)(w:af):(Instr.build 29 #[(3,.string l)]).run ah w=.ok (.agg (Rp.cells ⟨0,ak,false,l⟩)) w:=by kernel_rfl
def eB3{pz:Prop}(h:pz)(c:qQ (.build 29 #[(3,y)]) pz:=by exact rz (by with_unfolding_none exact rfl) (by with_reducible exact rfl)):pz:=h
def dB3{lg:ByteArray}(hr:wpList prog ops Q rest (a.put o.dst (.agg (Rp.cells ⟨0,ByteArray.empty,false,lg⟩))) w)(ho:o.op=.build 29 #[(3,y)]:=by exact rfl)(hy:a.eval y=.string lg:=by exact rfl)(hgd:o.guard=none:=by exact rfl):wpList prog ops Q (o::rest) a w:=
 wpList_plain hgd fun K hK=>by
  unfold Oper.wp execOp
  simp only[ho,List.map_toArray,List.map_nil,List.map_cons,hy,Sem.run_bind,qdN,Result.andThen_ok,Sem.run_pure]
  exact hK _ _ hr
end
def Sz(fs:List (Nat×Fl)):(iy fs).all (·.oneCell')=true:=by
 rw[List.all_eq_true];intro u hu
 obtain⟨x,_,h⟩:=List.mem_flatMap.1 hu
 obtain⟨n,a,b,c,d,e,f,g,h',i,j⟩:=x
 simp[fc] at h
 rcases h with h|h|h|h|h|h|h|h|h|h<;>subst h<;>rfl
def SA(fs:List (Nat×Fl)):(gQ fs).all (·.oneCell')=true:=by
 rw[List.all_eq_true];intro u hu
 obtain⟨x,_,h⟩:=List.mem_map.1 hu
 subst h;rfl
theorem MG(fs:List (Nat×Fl)):(iy fs).length=fs.length*10:=qdD _ 10 pN fs
theorem MH(fs:List (Nat×Fl)):(gQ fs).length=fs.length:=by simp[gQ]
def ixN(g n cap j:Nat)(hj:j<n)(w:af):(Instr.indexAt 44 (.slice (some ⟨g,0,none⟩) n cap) (I Z (j:Int))).run ah w=.ok (V (some ⟨g,j,none⟩)) w:=by
 have:=ixD underlying44 (fun _=>by kernel_rfl) (m:=1) g n cap j hj w
 rwa [Nat.mul_one] at this
def qdO(h:fs[j]?=some x)(q:Nat)(hq:q<10):(iy fs)[j*10+q]?=(fc x.2)[q]?:=by
 have:=ug (fun x:Nat×Fl=>(fc x.2).toList) 10 pN fs j x h
 rw[←Array.getElem?_toList,←this,List.getElem?_take,aZ hq,List.getElem?_drop]
 rfl
def SB(h:fs[j]?=some x):(gQ fs)[j]?=some (I Z (x.1:Int)):=by
 unfold gQ
 rw[List.getElem?_map,h];rfl
def loops:Code->List Code
 | .loop c=>c::loops c
 | .seq a b=>loops a++loops b
 | .block _ c=>loops c
 | .scope c=>loops c
 | .cond _ a b=>loops a++loops b
 | _=>[]
def uh(f:Func)(k:Nat):Code:=((f.body.map loops).getD []).getD k .skip
def isB(n:Nat):Code->Bool
 | .block k _=>k==n
 | .seq _ b=>isB n b
 | _=>false
def qz(n:Nat):Code->Option Code
 | .seq a b=>if isB n a then some b else(qz n a).or (qz n b)
 | .block _ c=>qz n c
 | .loop c=>qz n c
 | .scope c=>qz n c
 | .cond _ a b=>(qz n a).or (qz n b)
 | _=>none
def qdP{q:Mp}(s:Int)(cz:j<ms.length)(hm:ms[j]=q):bV (ms.take (j+1)) s=bV (ms.take j) s+if (q.2.1==s)=true then 1 else 0:=by
 unfold bV
 rw[bz cz,hm,List.filter_append,List.length_append]
 cases hq:(q.2.1==s)<;>simp[hq]
def qdQ(l:List Mp)(s:Int):bV l s<=l.length:=List.length_filter_le _ _
def qdR(j:Nat)(h:j<48)(w:af):Calls ah 54 #[I Z (1024+(j:Int))] w fun e w'=>e=.returned (.tuple #[I Z ((j/8:Nat):Int),I Z ((j%8:Nat):Int),.bool true])/\w'=w:=by
 have:=yb (1024+(j:Int)) w om
 unfold fL at this
 rw[show(1024+(j:Int)-1024)/8=((j/8:Nat):Int) by omega,show(1024+(j:Int)-1024)%8=((j%8:Nat):Int) by omega] at this
 exact this
section
variable {ops:Array Oper} {rest:List Oper} {Q:Exit->Act->World->Prop} {o:Oper} {a:Act} {w w0:World} {F0:Nat->Prop} {L:List Cp} {v:Value} {x s:Operand} {st e:TypeId} {c m n:Nat} {cs:Array Value} {xs:List Value}
def qdS(m:Mp)(w:af):(Instr.buildSlice 40 1 #[(0,.agg (mc m))]).run ah w=.ok (.slice (some ⟨w.heap.size,0,none⟩) 1 1) (w.alloc (.cells (mc m) 72)):=by kernel_rfl
def O1{a':Act}{pz:Prop}(h:wpList prog ops Q (o::rest) a' w)(c:pz=wpList prog ops Q (o::rest) a w:=by with_unfolding_none exact rfl)(d:o.op=.buildSlice st 1 #[(0,x)]:=by with_reducible exact rfl)(e:a=a':=by exact nzB):pz:=by subst c e;exact h
def O2{a':Act}{pz:Prop}(h:wpList prog ops Q (o::rest) a' w)(c:pz=wpList prog ops Q (o::rest) a w:=by with_unfolding_none exact rfl)(d:o.op=.call { callee:=.builtin .append,args:=#[s,x],argTypes:=#[st,st] }:=by with_reducible exact rfl)(e:a=a':=by exact nzB):pz:=by subst c e;exact h
def SC{p:Operand}{a':Act}{pz:Prop}(h:wpList prog ops Q (o::rest) a' w)(c:pz=wpList prog ops Q (o::rest) a w:=by with_unfolding_none exact rfl)(d:o.op=.build 72 #[(0,p),(1,q),(2,r),(3,s),(4,t)]:=by with_reducible exact rfl)(e:a=a':=by exact nzB):pz:=by subst c e;exact h
def SD{p:Operand}{x y z u v:Int}(hr:wpList prog ops Q rest (a.put o.dst (.agg (mc (x,y,z,u,v)))) w)(ho:o.op=.build 72 #[(0,p),(1,q),(2,r),(3,s),(4,t)]:=by exact rfl)(h1:a.eval p=I Z x:=by exact rfl)(h2:a.eval q=I Z y:=by exact rfl)(h3:a.eval r=I Z z:=by exact rfl)(h4:a.eval s=I Z u:=by exact rfl)(h5:a.eval t=I Z v:=by exact rfl)(hgd:o.guard=none:=by exact rfl):wpList prog ops Q (o::rest) a w:=
 qaE hgd p q r s t ho x y z u v h1 h2 h3 h4 h5 hr
def O3{m:Mp}(B:Dz F0 w0 w L)(hr:∀c w',Dz F0 w0 w' (cR 72 c (mc m)::L)->wpList prog ops Q rest (a.put o.dst (.slice (some ⟨c,0,none⟩) 1 1)) w')(ho:o.op=.buildSlice 40 1 #[(0,x)]:=by exact rfl)(hx:a.eval x=.agg (mc m):=by exact rfl)(hgd:o.guard=none:=by exact rfl):wpList prog ops Q (o::rest) a w:=
 wpList_plain hgd fun K hK=>Hm B (fun c w' h=>hK _ _ (hr c w' h)) ho hx (qdS m)
def O4(B:Dz F0 w0 w L)(i j:Nat)(hr:∀(S:Sl) w',Dz F0 w0 w' (L.set i (cL e m S.v (n+1) (xs++cs.toList)))->wpList prog ops Q rest (a.put o.dst S.v) w')(hi:L[i]?=some (cL e m v n xs):=by exact rfl)(hj:L[j]?=some (cR e c cs):=by exact rfl)(ho:o.op=.call { callee:=.builtin .append,args:=#[s,x],argTypes:=#[st,st] }:=by exact rfl)(hs:a.eval s=v:=by exact rfl)(hx:a.eval x=.slice (some ⟨c,0,none⟩) 1 1:=by exact rfl)(hst:prog.underlying st=some (.slice e):=by kernel_rfl)(hf:(prog.info? e).map (fun i=>(i.zero,i.size,i.bytes))=some (some z,m,ii):=by exact Oi)(hz:z.cells.size=m:=by exact rfl)(hm:0<m:=by decide)(hy:0<ii:=by decide)(hc:cs.size=m:=by exact rfl)(h1:cs.all (·.oneCell')=true:=by kernel_rfl)(hgd:o.guard=none:=by exact rfl)(hn:(n+1)*ii<=140737488355328:=by have:=qA.out;omega):wpList prog ops Q (o::rest) a w:=
 wpList_plain hgd fun K hK=>Mu B i j (fun S w' h=>hK _ _ (hr S w' h)) hi hj ho hs hx hst hf hz hm hy hc h1 hn
def Dz.FP(B:Dz F0 w0 w L)(hb:aq w.heap.size w W)(h:W.ownsRow w.heap.size e m v n xs):Dz F0 w0 W (cL e m v n xs::L):=
 B.add _ hb (Bq ⟨h.1,h.2.imp id fun⟨g,cap,cur,hv,_,r⟩=>⟨g,cap,cur,hv,Nat.zero_le _,r⟩⟩) fun c hc=>(World.ownsRow.lt h c hc).1
def Dz.own(B:Dz (fun _=>False) w0 w L)(i:Nat)(hi:L[i]?=some (cL e m v n xs)):w.ownsRow w0.heap.size e m v n xs:=by
 obtain⟨h0,hh⟩:w.ownsRow 0 e m v n xs:=B.at i hi
 rcases hh with h|⟨g,cap,cur,hv,_,r⟩
 .exact⟨h0,.inl h⟩
 .exact⟨h0,.inr ⟨g,cap,cur,hv,((B.ok _ (List.mem_of_getElem? hi)).2 g (by subst hv;rfl)).elim False.elim id,r⟩⟩
def SE{m:Mp}(h:W.ownsRow b 72 5 v (ms.length+1) (eF ms++(mc m).toList))(hl:ms.length<=1000):cE W v (ms++[m])/\b<=mb v:=by
 have e:(mc m).toList=jn m:=rfl
 rw[e,←U7,←U6,show ms.length+1=(ms++[m]).length by simp] at h
 have:=Qh h (by simp;omega)
 exact⟨this.1,this.2.2 zm⟩
def dRe{id:Nat}(B:Dz F0 w0 w L)(h:∀W,Dz F0 w0 W L->fE (L.take (L.length-2)) W->jo ops (NoPanic Q) (fE (L.take (L.length-2))) [] ops.size (Array.replicate ops.size false) a W)(hm:prog.follows .mixedOrders=true:=by kernel_rfl):(Code.region id ops true).wp prog Q a w:=nZ B _ [] h hm
def vJ{fn:Func}{c':Nat}{ds:Array Value}(h:R (.returned (.tuple #[.agg cs,.agg ds,a.tmps.getD 12 undef,a.tmps.getD 13 undef])) w)(hf:fn.results=#[.cell 10 42,.cell 11 72,.tmp 12,.tmp 13]:=by exact rfl)(hp:a.tmps.getD 10 undef=V (some ⟨c,0,none⟩):=by exact rfl)(hq:a.tmps.getD 11 undef=V (some ⟨c',0,none⟩):=by exact rfl)(R1:aP 42 w c cs:=by first|exact B.row 3 rfl|exact B.row 4 rfl|exact B.row 5 rfl|exact B.row 6 rfl|exact B.row 7 rfl|exact B.row 8 rfl|exact B.row 9 rfl)(R2:aP 72 w c' ds:=by first|exact B.row 2 rfl|exact B.row 3 rfl|exact B.row 4 rfl|exact B.row 5 rfl|exact B.row 6 rfl|exact B.row 7 rfl|exact B.row 8 rfl)(hi:(prog.info? 42).map (·.size)=some cs.size:=by kernel_rfl)(hi':(prog.info? 72).map (·.size)=some ds.size:=by kernel_rfl)(hd:a.defers=[]:=by exact rfl):bodyPost prog fn R .ret a w:=
 bodyPost_ret (Qo hf _ _ _ _ _ _ hp hq R1 R2 _ _ underlying42 underlying72 rfl rfl hi hi') hd h
end
section
variable (w:World) (f:Nat->Int) (g:Nat->Bool) (h:Nat->Int) (sl:Value) (ms:List Mp) (p s i d:Int) (c5 c10 c11 mG:Nat)
def O5:List Cp:=[cR 72 mG (mc fW),cR 42 c5 (tc f g h sl),cR 72 c11 (mc fW),cR 42 c10 (tc (fun _=>0) (fun _=>false) (fun _=>0) (.slice none 0 0))]
def uL(u:Nat->ag):Prop:=[u 1,u 2,u 3,u 4,u 5,u 10,u 11,u 14]=[I Z p,I Z s,I Z i,I Z d,V (some ⟨c5,0,none⟩),V (some ⟨c10,0,none⟩),V (some ⟨c11,0,none⟩),V (some ⟨mG,0,none⟩)]
def J1(q:Nat)(u:Nat->ag)(W:af):Prop:=∃j:Nat,q=ms.length-j/\j<=ms.length/\uL p s i d c5 c10 c11 mG u/\[u 17,u 18,u 74,u 75,u 76]=[I Z (bV (ms.take j) s:Int),I Z 0,sl,I Z (ms.length:Int),I Z (j:Int)]/\Dz (fun _=>False) w W (O5 f g h sl c5 c10 c11 mG)
def X2(a:Int)(c:Nat)(u:Nat->ag)(W:af):Prop:=∃(xP:Nat) (v:ag),uL p s i d c5 c10 c11 mG u/\[u 18,u 21,u 22]=[I Z (c:Int),V (some ⟨xP,0,none⟩),I Z a]/\Dz (fun _=>False) w W (cL 72 5 v ms.length (eF ms)::cR 42 xP (tc f g h v)::O5 f g h sl c5 c10 c11 mG)
def J2(aN q:Nat)(u:Nat->ag)(W:af):Prop:=∃j:Nat,q=48-j/\j<=48/\u 23=I Z (1024+(j:Int))/\(aA j).find? (wU f ms p s aN)=none/\X2 w f g h sl ms p s i d c5 c10 c11 mG (aN:Int) (nv f s aN j) u W
end
section
variable {w:World} {f:Nat->Int} {g:Nat->Bool} {h:Nat->Int} {sl:Value} {ms:List Mp} {p s i d:Int} {c5 c10 c11 mG:Nat}
def Bv{p:Prop}(h:p:=by
 go_wp2_with (first|(refine qU rfl (.tmp 74) (.tmp 76) rfl _ ms iv rfl j rfl hlt ?_)|(refine iz ?_;refine iN ?_;clear B;intro UF W B)|(refine wpList_load_mid rfl 72 (.tmp 78) rfl _ _ rfl (jn (x1,x2,x3,x4,x5)) _ hrg underlying72 rfl (xR _) ?_;rw[Ag];clear hrg iv)|(refine eG ?_;first|refine gJ ?_|refine eP ?_)|(refine fe ?_;refine dD B 0 ?_;clear B;intro W B))
 exact je (ms.length-(j+1)) (by have:=HK.out;have:=fR.out;omega) ⟨j+1,rfl,fR.out,by unfold uL;kernel_rfl,by rw[HC.out,n2];kernel_rfl,B.drop 1⟩):p:=h
def qdT(hM:cE w sl ms)(hl:ms.length<=1000)(hx:∀u W,J1 w f g h sl ms p s i d c5 c10 c11 mG 0 u W->Q (.exit 0) (cJ 206 u) W)(q:Nat)(u:Nat->ag)(W:af)(hJ:J1 w f g h sl ms p s i d c5 c10 c11 mG q u W):
  (uh f53 0).wp ah (Exit.then (ri 206 (J1 w f g h sl ms p s i d c5 c10 c11 mG) q) Q) (cJ 206 u) W:=by
 obtain⟨j,hk,hj,hS,hV,B⟩:=hJ
 unfold uL at hS
 simp only[aO,and_true] at hS hV
 obtain⟨f1,f2,f3,f4,f5,f10,f11,f14⟩:=hS;obtain⟨f17,f18,f74,f75,f76⟩:=hV
 unfold O5 at B
 conv=>arg 2;whnf
 simp only[cJ,aA,aF,aB,aI,f1,f2,f3,f4,f5,f10,f11,f14,f17,f18,f74,f75,f76]
 clear f1 f2 f3 f4 f5 f10 f11 f14 f17 f18 f74 f75 f76;have HX:=ar hx;have HK:=ar hk;clear hx hk
 by_cases hlt:j<ms.length
 .obtain⟨⟨x1,x2,x3,x4,x5⟩,hm⟩:∃m,ms[j]=m:=⟨_,rfl⟩
  have iv:=hM.keep B.iW hM.lt;have hrg:=iv.at j hlt hm;have HC:aK _:=qdP s hlt hm;have kF:=qdQ (ms.take j) s;(have qdU:(ms.take j).length<=ms.length:=by rw[List.length_take];omega)
  obtain⟨c,hc⟩:∃c,c=bV (ms.take j) s:=⟨_,rfl⟩
  rw[←hc] at HC kF
  rw[←hc];(have kQ:(j:Int)<(ms.length:Int):=by omega);have fU:=oQ (p:=j) om;have hcw:=oQ (p:=c) om;have fR:aK _:=hlt;clear hj hl kF qdU hm hc
  cases n2:(x2==s) with
  | false=>
   exact Bv
  | true=>
   exact Bv
 ·(have kQ:¬(j:Int)<(ms.length:Int):=by omega)
  obtain rfl:j=ms.length:=by omega
  clear hlt hj hl
  go_wp2
  exact rj HX.out ⟨ms.length,by omega,Nat.le_refl _,by unfold uL;kernel_rfl,by rw[bn];kernel_rfl,B⟩
def vK{p:Prop}(h:p:=by
 refine dRe B ?_;clear B;intro W B A;refine er [0,1] ?_;refine fQ 2 ?_
 (first|refine iG B 3 ?_|refine iG B 5 ?_|refine iG B 6 ?_|refine iG B 7 ?_|refine iG B 8 ?_|refine iG B 9 ?_);clear B A;intro W B A
 refine fQ 3 ?_
 (first|refine iG B 2 ?_|refine iG B 4 ?_|refine iG B 5 ?_|refine iG B 6 ?_|refine iG B 7 ?_|refine iG B 8 ?_);clear B A;intro W B A
 refine er [4,5] ?_;refine fM ?_
 go_wp2
 first
  | exact yF.out _ _ (vJ (HR.out j _ _ (HY.out rfl) (HE.out _ _ (B.own 3 rfl)).1 (HE.out _ _ (B.own 3 rfl)).2 B.iW))
  | exact yF.out _ _ (vJ (HT2.out _ _ (HE.out _ _ (B.own 3 rfl)).1 (HE.out _ _ (B.own 3 rfl)).2 B.iW))
  | exact yF.out _ _ (vJ (HR.out _ B.iW))):p:=h
def Bw{p:Prop}(h:p:=by
 go_wp2_with (first|(go_at_call 54;go_fit (CB _);refine Bx ?_)|(go_at_call 60;go_fit (CK _ (HM.out.keep B.iW HM.out.lt));refine kg ?_;clear B;intro W B)|(refine iz ?_;refine iN ?_;clear B;intro c W B)|(refine eG ?_;first|refine gJ ?_|refine eP ?_ (hc:=HO.out _)|refine eP ?_ (hc:=ma _ _ _ _))|(refine SC ?_;refine SD ?_)|(refine O1 ?_;refine O3 B ?_;clear B;intro c W B)|(refine O2 ?_;refine O4 B 3 0 ?_;clear B;intro S W B;refine nzA ?_)|(refine fe ?_;(first|refine dD B 0 ?_|refine ld B 4 (tc f g h S.v) ?_);clear B;intro W B))
 exact je (48-(j+1)) (by have:=HK.out;have:=HJ.out;omega) ⟨j+1,rfl,HJ.out,by kernel_rfl,HN.out rfl,xP,v,by unfold uL;kernel_rfl,by rw[HH.out,c0];kernel_rfl,B.drop 1⟩):p:=h
def Bz{p:Prop}(h:p:=by
 go_upto_region 29 with(first|(go_at_call 54;go_fit (CB _);refine Bx ?_)|(go_at_call 60;go_fit (CK _ (HM.out.keep B.iW HM.out.lt));refine kg ?_;clear B;intro W B)|(refine iz ?_;refine iN ?_;clear B;intro c W B)|(refine eG ?_;first|refine gJ ?_|refine eP ?_ (hc:=HO.out _)|refine eP ?_ (hc:=ma _ _ _ _))|(refine SC ?_;refine SD ?_)|(refine O1 ?_;refine O3 B ?_;clear B;intro c W B)|(refine O2 ?_;refine O4 B 3 0 ?_;clear B;intro S W B;refine nzA ?_)|(refine fe ?_;(first|refine dD B 0 ?_|refine ld B 4 (tc f g h S.v) ?_);clear B;intro W B))
 exact vK):p:=h
def qdV{aN:Nat}(hM:cE w sl ms)(hl:ms.length<=1000)(wN:aN<3)(hs:0<=s/\s<8)(hx:∀u W,(aA 48).find? (wU f ms p s aN)=none->X2 w f g h sl ms p s i d c5 c10 c11 mG (aN:Int) (nv f s aN 48) u W->Q (.exit 2) (cJ 206 u) W)(hR:∀(j:Nat) v W,(aA 48).find? (wU f ms p s aN)=some j->cE W v (ms++[(p,s,i,(aN:Int),1024+(j:Int))])->w.heap.size<=mb v->aq w.heap.size w W->R (.returned (.tuple #[.agg (tc f g h v),.agg (mc (p,s,i,(aN:Int),1024+(j:Int))),.bool false,I Z 0])) W)(BA:∀a W,bodyPost ah f53 R .ret a W->Q .ret a W)(q:Nat)(u:Nat->ag)(W:af)(hJ:J2 w f g h sl ms p s i d c5 c10 c11 mG aN q u W):
  (uh f53 1).wp ah (Exit.then (ri 206 (J2 w f g h sl ms p s i d c5 c10 c11 mG aN) q) Q) (cJ 206 u) W:=by
 obtain⟨j,hk,hj,f23,hF,xP,v,hS,hV,B⟩:=hJ
 unfold uL at hS
 simp only[aO,and_true] at hS hV
 obtain⟨f1,f2,f3,f4,f5,f10,f11,f14⟩:=hS;obtain⟨f18,f21,f22⟩:=hV
 unfold O5 at B
 conv=>arg 2;whnf
 simp only[cJ,aA,aF,aB,aI,f1,f2,f3,f4,f5,f10,f11,f14,f18,f21,f22,f23]
 clear f1 f2 f3 f4 f5 f10 f11 f14 f18 f21 f22 f23;have HX:=ar hx;have HR:=ar hR;have yF:=ar BA;have HF:=ar hF;have HK:=ar hk;have HM:=ar hM;(have ha0:(0:Int)<=(aN:Int):=by omega);clear hx hR BA hF hk hM
 by_cases FQ:j<48
 ·(have jF:(1024+(j:Int))<1072:=by omega);(have fU:bK (1024+(j:Int)+1)=1024+((j+1:Nat):Int):=by unfold bK;omega);(have hsw:bK (s+1)=s+1:=by unfold bK;omega);(have CB:=fun w=>qdR j FQ w);(have I3:=fun b w=>MI b 0 aN wN w);(have I6:=fun b w=>MJ b (6*aN) (j/8) om w)
  simp only[Nat.zero_add] at I3
  have HO:aK (∀v,(tc f g h v)[6*aN+j/8]?=some (I Z (f (6*aN+j/8)))):=ar (fun v=>I9 _ _ _ _ _ om);have HH:=ar (Jq f s aN j);have kF:=QA f s aN j;(have HN:=ar fun h=>Zp (q:=wU f ms p s aN) HF.out h);(have HY:=ar fun h=>Zq (q:=wU f ms p s aN) HF.out h FQ)
  unfold wU at HN HY
  rw[Yx] at HN HY
  obtain⟨c,hc⟩:∃c,c=nv f s aN j:=⟨_,rfl⟩
  rw[←hc] at HH kF ⊢
  have hcw:=oQ (p:=c) om;have HJ:=ar FQ;have qA:=ar hl
  generalize hxx:f (6 * aN+j/8)=X at *
  clear hj kF hc hs wN FQ hl hxx
  cases cx:(X != s+1) with
  | true=>
   (have cy:(X==s+1)=false:=by simpa[bne] using cx)
   go_wp2_with (first|(go_at_call 54;go_fit (CB _);refine Bx ?_)|(refine eG ?_;first|refine gJ ?_|refine eP ?_ (hc:=HO.out _)))
   exact je (48-(j+1)) (by have:=HK.out;have:=HJ.out;omega) ⟨j+1,rfl,HJ.out,by kernel_rfl,HN.out (by rw[cy];rfl),xP,v,by unfold uL;kernel_rfl,by rw[HH.out,cy,Bool.and_false];kernel_rfl,B⟩
  | false=>
   (have cy:(X==s+1)=true:=by simpa[bne] using cx);(have CK:=fun W hM=>Jz f g h sl ms p (aN:Int) (1024+(j:Int)) W hM)
   rw[cy] at HN HY HH
   cases hb:ms.find? (gj p (aN:Int) (1024+(j:Int))) with
   | some m=>
    rw[hb] at CK HN HY
    unfold sZ at CK
    (have c1:(j%8==0)=(((j%8:Nat):Int)==0):=by rw[Bool.eq_iff_iff];simp;omega)
    rw[c1] at HH
    cases c0:(((j%8:Nat):Int)==0) with
    | true=>
     exact Bw
    | false=>
     exact Bw
   | none=>
    rw[hb] at CK HN HY
    unfold sZ at CK
    (have HE:=ar fun(v:ag) (W:af) h=>SE (W:=W) (v:=v) (m:=(p,s,i,(aN:Int),1024+(j:Int))) (b:=w.heap.size) h qA.out)
    cases c0:(((j%8:Nat):Int)==0) with
    | true=>
     exact Bz
    | false=>
     exact Bz
 .obtain rfl:j=48:=by omega
  go_wp2
  exact rj (fun u W=>HX.out u W HF.out) ⟨xP,v,by unfold uL;kernel_rfl,by kernel_rfl,B⟩
end
section
variable {w:World} {f:Nat->Int} {g:Nat->Bool} {h:Nat->Int} {a0:Option Addr} {n0 cap:Nat} {ms:List Mp} {p i d:Int} {sN:Nat} {c5 c10 c11 mG:Nat}
def omT(F:Func):Code:=(F.body.bind (qz 2)).getD .skip
def MK(f:Nat->Int)(g:Nat->Bool)(h:Nat->Int)(v:ag)(x:Int)(hn:n<8):Nat.ble (21+n+(Value.int .i64 x).cells.size) (tc f g h v).size=true:=Nat.ble_eq_true_of_le (by rw[show(tc f g h v).size=30 from ze _ _ _ _,show(Value.int .i64 x).cells.size=1 from rfl];omega)
def VW(f:Nat->Int)(g:Nat->Bool)(h:Nat->Int)(sl:ag):((tc f g h sl).toList.drop 0).take 21=(pc f g).toList:=by kernel_rfl
def BB{p:Prop}(h:p:=by
 refine dRe B ?_;clear B;intro W B A;refine er [0,1,2] ?_;refine fQ 3 ?_
 (first|refine iG B 3 ?_|refine iG B 5 ?_|refine iG B 6 ?_|refine iG B 7 ?_|refine iG B 8 ?_|refine iG B 9 ?_);clear B A;intro W B A
 refine fQ 4 ?_
 (first|refine iG B 2 ?_|refine iG B 4 ?_|refine iG B 5 ?_|refine iG B 6 ?_|refine iG B 7 ?_|refine iG B 8 ?_);clear B A;intro W B A
 refine er [5,6] ?_;refine fM ?_
 go_wp2
 first
  | exact yF.out _ _ (vJ (HT2.out _ B.iW))
  | exact yF.out _ _ (vJ (HT.out _ B.iW))):p:=h
def BC{p:Prop}(h:p:=by
 (have CT:=fun w=>qdW f g (sN:Int) Ad d hd w)
 unfold qW gg at CT
 have qo:=qaK f g (sN:Int) Ad d
 generalize oK f g (sN:Int) Ad d=K at *
 generalize tR f g (sN:Int) Ad d=F at *
 (have hw8:wrap64 (8*(K:Int))=8*(K:Int):=by unfold wrap64;omega);(have hw9:wrap64 (1024+8*(K:Int))=1024+8*(K:Int):=by unfold wrap64;omega);(have hwA:wrap64 (Ad+1)=Ad+1:=by unfold wrap64;omega);(have HE:=ar fun(v:Value) (W:World) h=>SE (W:=W) (v:=v) (m:=(p,(sN:Int),i,Ad,1024+8*(K:Int))) (b:=w.heap.size) h qA.out)
 by_cases hE:iY f g (sN:Int) Ad=0
 .have HT2:=ar (HT.out.2 hE)
  rw[hE] at CT
  clear hE HT qo hA hd
  go_upto_region 44 with(first|(go_at_call 117;go_fit (CQ _);refine kg ?_;intro W B)|(go_at_call 118;go_fit (CT _);refine kg ?_;clear B;intro W B)|(refine iz ?_;refine iN ?_;clear B;intro c W B)|(refine eG ?_;first|refine gJ ?_|refine iF ?_ (hp:=VW _ _ _ _)|refine eP ?_ (hc:=ma _ _ _ _))|(refine SC ?_;refine SD (v:=1024+8*(K:Int)) ?_ (h5:=by first|exact congrArg (Value.int .i64) hw9|exact rfl))|(refine O1 ?_;refine O3 B ?_;clear B;intro c W B)|(refine O2 ?_;refine O4 B 3 0 ?_;clear B;intro S W B;refine nzA ?_)|(refine fe ?_;(first|refine dD B 0 ?_|refine ld B 3 (tc F g h v) ?_ (t':=38)|refine ld B 3 (tc F g (upd h sN (Ad+1)) v) ?_ (v:=I Z (Ad+1)) (f:=21+sN) (hy:=by first|exact congrArg (Value.int .i64) hwA|exact rfl) (hd:=Oc _ _ _ _ _ _ ui.out) (hf:=MK _ _ _ _ _ ui.out)|refine ld B 4 (tc F g (upd h sN (Ad+1)) S.v) ?_);clear B;intro W B))
  exact vK
 .have HT2:=ar (HT.out.1 hE);(have hEb:(iY f g (sN:Int) Ad != 0)=true:=by simpa using hE)
  generalize iY f g (sN:Int) Ad=E at *
  clear hE HT qo hA hd HE
  go_upto_region 39 with(first|(go_at_call 117;go_fit (CQ _);refine kg ?_;clear B;intro W B)|(go_at_call 118;go_fit (CT _);refine kg ?_;clear B;intro W B)|(refine iz ?_;refine iN ?_;clear B;intro c W B)|(refine eG ?_;first|refine gJ ?_|refine iF ?_ (hp:=VW _ _ _ _)|refine eP ?_ (hc:=ma _ _ _ _))|(refine SC ?_;refine SD (v:=1024+8*(K:Int)) ?_ (h5:=by first|exact congrArg (Value.int .i64) hw9|exact rfl))|(refine O1 ?_;refine O3 B ?_;clear B;intro c W B)|(refine O2 ?_;refine O4 B 3 0 ?_;clear B;intro S W B;refine nzA ?_)|(refine fe ?_;(first|refine dD B 0 ?_|refine ld B 3 (tc F g h v) ?_ (t':=38)|refine ld B 3 (tc F g (upd h sN (Ad+1)) v) ?_ (v:=I Z (Ad+1)) (f:=21+sN) (hy:=by first|exact congrArg (Value.int .i64) hwA|exact rfl) (hd:=Oc _ _ _ _ _ _ ui.out) (hf:=MK _ _ _ _ _ ui.out)|refine ld B 4 (tc F g (upd h sN (Ad+1)) S.v) ?_);clear B;intro W B))
  exact BB):p:=h
def SF(hd:(Lit.int .i64 d).wf=true)(hl:ms.length<=1000)(hs:sN<8)(ha:a<3)(hc:c<=48)(hr2:c=2->∀W,aq w.heap.size w W->R (.returned (.tuple #[.agg (tc f g h (.slice a0 n0 cap)),.agg (mc fW),.bool false,.int .i64 6])) W)(tU:c≠2->a<0->oJ f g≠0->∀W,aq w.heap.size w W->R (.returned (.tuple #[.agg (tc f g h (.slice a0 n0 cap)),.agg (mc fW),.bool false,.int .i64 (oJ f g)])) W)(hrt:c≠2->∀A,(0<=a/\A=a\/a<0/\oJ f g=0/\A=nQ f g d)->(iY f g (sN:Int) A≠0->∀W,aq w.heap.size w W->R (.returned (.tuple #[.agg (tc f g h (.slice a0 n0 cap)),.agg (mc fW),.bool false,.int .i64 (iY f g (sN:Int) A)])) W)/\
   (iY f g (sN:Int) A=0->∀v W,cE W v (ms++[(p,(sN:Int),i,A,1024+8*(oK f g (sN:Int) A d:Int))])->w.heap.size<=mb v->aq w.heap.size w W->R (.returned (.tuple #[.agg (tc (tR f g (sN:Int) A d) g (upd h sN (A+1)) v),.agg (mc (p,(sN:Int),i,A,1024+8*(oK f g (sN:Int) A d:Int))),.bool true,.int .i64 0])) W))(BA:∀a W,bodyPost ah f53 R .ret a W->Q .ret a W)(u:Nat->ag)(W:af)(hX:X2 w f g h (.slice a0 n0 cap) ms p (sN:Int) i d c5 c10 c11 mG a c u W):
  (omT f53).wp ah Q (cJ 206 u) W:=by
 obtain⟨xP,v,hS,hV,B⟩:=hX
 unfold uL at hS
 simp only[aO,and_true] at hS hV
 obtain⟨f1,f2,f3,f4,f5,f10,f11,f14⟩:=hS;obtain⟨f18,f21,f22⟩:=hV
 unfold O5 at B
 conv=>arg 2;whnf
 simp only[cJ,aA,aF,aB,aI,f1,f2,f3,f4,f5,f10,f11,f14,f18,f21,f22]
 clear f1 f2 f3 f4 f5 f10 f11 f14 f18 f21 f22;have yF:=ar BA;have qA:=ar hl;have ui:=ar hs;(have I8:=fun b w=>QO b 21 sN ui.out w);clear BA hl hs
 by_cases h2:c=2
 .subst h2
  have HR:=ar (hr2 rfl);clear hr2 tU hrt hc
  go_upto_region 31 with fail
  exact vK
 (have c2:((c:Int)==2)=false:=by simp;omega);have SG:=ar (hrt h2);have VX:=ar (tU h2);clear hr2 hrt tU;(have CQ:=fun w=>qdX f g d hd w)
 unfold gg at CQ
 clear h2 hc
 by_cases h0:a<0
 .by_cases O6:oJ f g=0
  .have hA:=qaL f g d;have HT:=ar (SG.out _ (.inr ⟨h0,O6,rfl⟩))
   rw[O6] at CQ
   generalize nQ f g d=Ad at *
   clear O6 SG VX ha
   exact BC
  .have HT:=ar (VX.out h0 O6);(have hEb:(oJ f g != 0)=true:=by simpa using O6)
   generalize oJ f g=E at *
   clear O6 SG VX ha hd
   go_upto_region 36 with(first|(go_at_call 117;go_fit (CQ _);refine kg ?_;clear B;intro W B)|(go_at_call 118;go_fit (CT _);refine kg ?_;clear B;intro W B)|(refine iz ?_;refine iN ?_;clear B;intro c W B)|(refine eG ?_;first|refine gJ ?_|refine iF ?_ (hp:=VW _ _ _ _)|refine eP ?_ (hc:=ma _ _ _ _))|(refine SC ?_;refine SD (v:=1024+8*(K:Int)) ?_ (h5:=by first|exact congrArg (Value.int .i64) hw9|exact rfl))|(refine O1 ?_;refine O3 B ?_;clear B;intro c W B)|(refine O2 ?_;refine O4 B 3 0 ?_;clear B;intro S W B;refine nzA ?_)|(refine fe ?_;(first|refine dD B 0 ?_|refine ld B 3 (tc f g h v) ?_ (t':=38)|refine ld B 4 (tc f g h S.v) ?_);clear B;intro W B))
   exact BB
 .obtain⟨Ad,hAd⟩:∃A,A=a:=⟨_,rfl⟩
  (have hA:0<=Ad/\Ad<3:=by omega);have HT:=ar (SG.out Ad (.inl ⟨by omega,hAd⟩))
  subst hAd
  clear SG VX ha
  exact BC
end
def cG(b N:Nat)(M:af->Nat->Prop):Cp:=⟨fun c=>c=b,fun W=>∃n,n<=N/\M W n⟩
structure BD(b:Nat)(M:af->Nat->Prop):Prop where
 keep:∀W W' n,M W n->W'.heap[b]?=W.heap[b]?->M W' n
 lt:∀W n,M W n->b<W.heap.size
section
variable {α:Type} {kt:TypeId} {κ:α->Value} {ok:α->Prop} {b:Nat}
def mB(kt:TypeId)(κ:α->ag)(ok:α->Prop)(b:Nat)(S:α->Bool)(W:af)(n:Nat):Prop:=uG W kt κ ok b n S
def mI(kt:TypeId)(κ:α->ag)(ok:α->Prop)(b:Nat)(S:α->Int)(W:af)(n:Nat):Prop:=qq W kt κ ok b n S
def ML{S:α->Bool}:BD b (mB kt κ ok b S):=⟨fun _ _ _ h e=>uG.keep h e,fun _ _ h=>uG.lt h⟩
def vL{S:α->Int}:BD b (mI kt κ ok b S):=⟨fun _ _ _ h e=>qq.keep h e,fun _ _ h=>qq.lt h⟩
end
section
variable {F0:Nat->Prop} {w0 w w':World} {L:List Cp} {b n N N':Nat} {M M':World->Nat->Prop}
def MM(P:BD b M)(h:M w n)(hn:n<=N):(cG b N M).Ok w:=⟨⟨n,hn,h⟩,fun W' hk=>⟨n,hn,P.keep _ _ _ h (hk b rfl)⟩,fun c hc=>hc▸P.lt _ _ h⟩
def Dz.mp(B:Dz F0 w0 w L)(i:Nat)(P:BD b M')(h:M' w' n)(hn:n<=N')(hg:w.grownBy w' (some b))(hi:L[i]?=some (cG b N M):=by exact rfl):Dz F0 w0 w' (L.set i (cG b N' M')):=
 B.put i hi _ ⟨hg.os,hg.tape,hg.output,hg.size,fun k hk hn=>hg.block k hk (fun e=>hn (by cases e;rfl))⟩ (MM P h hn) (fun c hc=>.inl hc)
variable {ops:Array Oper} {rest:List Oper} {Q:Exit->Act->World->Prop} {o oi:Oper} {a:Act} {t:TypeId} {R:List Cp} {lt:List Nat} {l:Array Bool} {x y z:Operand} {v kv:Value}
def BF{id:Nat}(R:List Cp)(lt:List Nat)(A:fE R w.drew)(h:fE R w.drew->jo ops (NoPanic Q) (fE R) lt ops.size (Array.replicate ops.size false) a w.drew)(hm:prog.follows .mixedOrders=true:=by kernel_rfl):(Code.region id ops true).wp prog Q a w:=
 wp_region_noPanic (wp_region_any hm (Mt _ _ _ _ (h A)))
def SI(h:wpList prog ops Q (o::rest) a w)(ho:o.op=.makeMap t none:=by exact rfl):wpList prog ops Q (o::rest) a w:=h
def VY(h:wpList prog ops Q (o::rest) a w)(ho:o.op=.lookup t x y false:=by exact rfl):wpList prog ops Q (o::rest) a w:=h
def eMu(h:wpList prog ops Q (o::rest) a w)(ho:o.op=.mapUpdate t x y z:=by exact rfl):wpList prog ops Q (o::rest) a w:=h
def SJ(M:Nat->World->Nat->Prop)(B:Dz F0 w0 w L)(P:∀b,BD b (M b))(h0:∀w:World,M w.heap.size (w.alloc (.map #[] 0)) 0)(hr:∀b w',Dz F0 w0 w' (cG b 0 (M b)::L)->wpList prog ops Q rest (a.put o.dst (.map (some b))) w')(ho:o.op=.makeMap t none:=by exact rfl)(hgd:o.guard=none:=by exact rfl):wpList prog ops Q (o::rest) a w:=
 ZV t hgd ho fun b hb=>hr b _ (hb▸B.add _ ((Below.refl w.heap.size w).alloc (Nat.le_refl _) _) (MM (P _) (h0 w) (Nat.le_refl _)) (fun c hc=>Nat.le_of_eq hc.symm))
def O7(i:Nat)(hS:∀w,fE R w->(Instr.lookup t (.map (some b)) kv false).run prog w=.ok v w)(h:jo ops Q (fE R) lt n (l.setIfInBounds i true) (a.put oi.dst v) w)(hi:ops[i]?=some oi:=by exact rfl)(ho:oi.op=.lookup t x y false:=by exact rfl)(hx:a.eval x=.map (some b):=by exact rfl)(hy:a.eval y=kv:=by exact rfl)(hw:Region.wanted oi (yielded ops a.tmps)=true:=by kernel_rfl)(A:fE R w:=by exact A)(hs:Region.noSelect ops=true:=by kernel_rfl)(hf:Region.free .any ops l i=true:=by kernel_rfl)(hr:(Region.ready .any ops l).contains i=true:=by kernel_rfl)(hl:sg ops lt i=true:=by kernel_rfl)(kF:uf ops l=true:=by kernel_rfl)(hQ:∀c a w,Q (.panic c) (a.put oi.dst v) w->Q (.panic c) a w:=by exact fun _ _ _ h=>h):jo ops Q (fE R) lt (n+1) l a w:=
 OY (is:=[]) (ZW t x y ho hw _ _ _ hx hy hS) A h hi hs hf hr hl kF hQ
end
section
variable {α:Type} [DecidableEq α] {kt:TypeId} {κ:α->Value} {ok:α->Prop} {b N:Nat} {W:World} {t:TypeId}
def lkB{S:α->Bool}{v:Bool}(h:(cG b N (mB kt κ ok b S)).P W)(K:Ky kt κ ok)(a:α)(ha:ok a)(hv:S a=v)(ht:prog.underlying t=some (.map kt 4):=by kernel_rfl):(Instr.lookup t (.map (some b)) (κ a) false).run prog W=.ok (.bool v) W:=by
 obtain⟨n,-,h⟩:=h
 rw[←hv];exact uG.look h K ht a ha
def SK{S:α->Int}(h:(cG b N (mI kt κ ok b S)).P W)(K:Ky kt κ ok)(a:α)(ha:ok a)(ht:prog.underlying t=some (.map kt 3):=by kernel_rfl):(Instr.lookup t (.map (some b)) (κ a) false).run prog W=.ok (I Z (S a)) W:=by
 obtain⟨n,-,h⟩:=h
 exact(qq.look h K ht a ha).1
variable {F0:Nat->Prop} {w0 w:World} {L:List Cp} {Q:Exit->Act->World->Prop} {o:Oper} {a:Act} {k:Act->World->Prop} {x y z:Operand} {S':α->Int}
def kmB{S:α->Bool}{S':α->Bool}(B:Dz F0 w0 w L)(i:Nat)(K:Ky kt κ ok)(e:α)(he:ok e)(v:Bool)(hN:N<=1000)(hS:jc S e v=S')(hr:∀w',Dz F0 w0 w' (L.set i (cG b (N+1) (mB kt κ ok b S')))->k (a.put o.dst undef) w')(hi:L[i]?=some (cG b N (mB kt κ ok b S)):=by exact rfl)(ht:prog.underlying t=some (.map kt 4):=by kernel_rfl)(ho:o.op=.mapUpdate t x y z:=by exact rfl)(hx:a.eval x=.map (some b):=by exact rfl)(hy:a.eval y=κ e:=by exact rfl)(hz:a.eval z=.bool v:=by exact rfl):o.wp prog a w k Q:=by
 obtain⟨n,hn,h⟩:=B.at i hi
 subst hS
 obtain⟨w',h1,h2,h3⟩:=uG.put h K ht (by unfold maxLen;omega) e he v
 exact QS t x y z ho _ _ _ hx hy hz h1 (hr _ (B.mp i ML h2 om h3 hi))
def kmI{S:α->Int}(B:Dz F0 w0 w L)(i:Nat)(K:Ky kt κ ok)(e:α)(he:ok e)(v:Int)(hv:o8 v)(hN:N<=1000)(hS:jc S e v=S')(hr:∀w',Dz F0 w0 w' (L.set i (cG b (N+1) (mI kt κ ok b S')))->k (a.put o.dst undef) w')(hi:L[i]?=some (cG b N (mI kt κ ok b S)):=by exact rfl)(ht:prog.underlying t=some (.map kt 3):=by kernel_rfl)(ho:o.op=.mapUpdate t x y z:=by exact rfl)(hx:a.eval x=.map (some b):=by exact rfl)(hy:a.eval y=κ e:=by exact rfl)(hz:a.eval z=I Z v:=by exact rfl):o.wp prog a w k Q:=by
 obtain⟨n,hn,h⟩:=B.at i hi
 subst hS
 obtain⟨w',h1,h2,h3⟩:=qq.put h K ht (by unfold maxLen;omega) e he v hv
 exact QS t x y z ho _ _ _ hx hy hz h1 (hr _ (B.mp i vL h2 om h3 hi))
variable {ops:Array Oper} {rest:List Oper}
def dMu{S:α->Int}(B:Dz F0 w0 w L)(i:Nat)(K:Ky kt κ ok)(e:α)(he:ok e)(v:Int)(hv:o8 v)(hN:N<=1000)(hS:jc S e v=S')(hr:∀w',Dz F0 w0 w' (L.set i (cG b (N+1) (mI kt κ ok b S')))->wpList prog ops Q rest (a.put o.dst undef) w')(hi:L[i]?=some (cG b N (mI kt κ ok b S)):=by exact rfl)(ht:prog.underlying t=some (.map kt 3):=by kernel_rfl)(ho:o.op=.mapUpdate t x y z:=by exact rfl)(hx:a.eval x=.map (some b):=by exact rfl)(hy:a.eval y=κ e:=by exact rfl)(hz:a.eval z=I Z v:=by exact rfl)(hgd:o.guard=none:=by exact rfl):wpList prog ops Q (o::rest) a w:=
 wpList_plain hgd fun J hJ=>kmI B i K e he v hv hN hS (fun w' h=>hJ _ _ (hr w' h)) hi ht ho hx hy hz
def VZ{S:α->Int}(i:Nat)(K:Ky kt κ ok)(e:α)(he:ok e)(B:Dz F0 w0 w L)(hr:wpList prog ops Q rest (a.put o.dst (I Z (S e))) w)(hi:L[i]?=some (cG b N (mI kt κ ok b S)):=by exact rfl)(ht:prog.underlying t=some (.map kt 3):=by kernel_rfl)(ho:o.op=.lookup t x y false:=by exact rfl)(hx:a.eval x=.map (some b):=by exact rfl)(hy:a.eval y=κ e:=by exact rfl)(hgd:o.guard=none:=by exact rfl):wpList prog ops Q (o::rest) a w:=
 Z8 hgd t x y ho _ _ _ hx hy (SK (B.at i hi) K e he ht) hr
def kme{S:α->Int}(B:Dz F0 w0 w L)(i:Nat)(K:Ky kt κ ok)(KL:WideMaps.KeyLaw prog kt)(e:α)(he:ok e)(hN:N<=1000)(hr:∀v st w',Dz F0 w0 w' (L.set i (cG b (N+1) (mI kt κ ok b S)))->(∀y S',o8 y->jc S e y=S'->∃w3,(Instr.entryStore t (.map (some b)) (goInt st) (I Z y)).run prog w'=.ok () w3/\Dz F0 w0 w3 (L.set i (cG b (N+1) (mI kt κ ok b S'))))->k (a.put o.dst (.tuple #[v,goInt st])) w')(hi:L[i]?=some (cG b N (mI kt κ ok b S)):=by exact rfl)(ht:prog.underlying t=some (.map kt 3):=by kernel_rfl)(ho:o.op=.mapEntry t x y:=by exact rfl)(hx:a.eval x=.map (some b):=by exact rfl)(hy:a.eval y=κ e:=by exact rfl):o.wp prog a w k Q:=by
 obtain⟨n,hn,h⟩:=B.at i hi;obtain⟨v,st,w1,h1,h2,h3,h4⟩:=qq.entry h K KL ht (by unfold maxLen;omega) e he;have B1:=B.mp i (vL (S:=S)) h2 (show n+1<=N+1 by omega) h3 hi
 refine Z9 t x y ho _ _ _ hx hy h1 (hr v st _ B1 fun z S' hz hS=>?_)
 subst hS
 obtain⟨w3,q1,q2,q3⟩:=h4 w1 z hz rfl
 refine⟨w3,q1,?_⟩
 have:=B1.mp (M:=mI kt κ ok b S) (N:=N+1) i (vL (S:=jc S e z)) q2 (show n+1<=N+1 by omega) q3 (by simp[(List.getElem?_eq_some_iff.1 hi).1])
 rwa [Mx] at this
end
end
def Nt.told(s:Nt)(n:Nat):Nt:={ s with logged:=n }
theorem SL(s:Nt)(e:Ev):(s.log [e]).2=s.told (s.logged+1):=rfl
theorem qdY(s:Nt)(n:Nat)(p:bM)(m:Mp):(s.told n).dK p m=((s.dK p m).1,(s.dK p m).2.told n):=by
 unfold Nt.dK
 rw[show(s.told n).find (lC p m)=s.find (lC p m) from rfl]
 cases s.find (lC p m) with
 | some x=>rfl
 | none=>simp only[show(s.told n).loose=s.loose from rfl,show(s.told n).full=s.full from rfl,show(s.told n).find (lD p m)=s.find (lD p m) from rfl];split<;>(try split)<;>rfl
def qdZ(s:Nt)(n:Nat)(l:List UInt8):(s.told n).i7 l=((s.i7 l).1,(s.i7 l).2.told n):=by
 unfold Nt.i7
 simp only[qdY,show(s.told n).ms=s.ms from rfl]
 split
 .rfl
 split
 .rfl
 split
 .rfl
 split
 .rfl
 split
 .rfl
 split<;>rfl
def Nt.lv(s:Nt)(l:List UInt8)(d a q:Int):Rp×Nt:=
 if 0<=d-3405803777/\d-3405803777<3 then s.i7 (nI l 0 (3405803777+a) q).data.toList else(⟨0,nI l 0 (3405803777+a) q,false,ak⟩,s)
theorem qev(s:Nt)(n:Nat)(l:List UInt8)(d a q:Int):(s.told n).lv l d a q=((s.lv l d a q).1,(s.lv l d a q).2.told n):=by
 unfold Nt.lv
 split
 .exact qdZ s n _
 .rfl
def qeA(s:Nt)(l:List UInt8):(s.i7 l).1.lg=ak/\(s.i7 l).2.logged=s.logged/\(s.i7 l).2.now=s.now:=by
 have e:(∀p m,(s.dK p m).2.logged=s.logged/\(s.dK p m).2.now=s.now):=fun p m=>by
  unfold Nt.dK
  split
  .exact⟨rfl,rfl⟩
  .split
   .exact⟨rfl,rfl⟩
   .split<;>exact⟨rfl,rfl⟩
 unfold Nt.i7
 split
 .exact⟨rfl,rfl,rfl⟩
 split
 .exact⟨rfl,rfl,rfl⟩
 split
 .exact⟨rfl,rfl,rfl⟩
 split
 .exact⟨rfl,rfl,rfl⟩
 split
 .exact⟨rfl,rfl,rfl⟩
 split
 .exact⟨rfl,e _ _⟩
 .exact⟨rfl,e _ _⟩
def SM(s:Nt)(l:List UInt8)(d a q:Int):(s.lv l d a q).1.lg=ak/\(s.lv l d a q).2.logged=s.logged/\(s.lv l d a q).2.now=s.now:=by
 unfold Nt.lv
 split
 .exact qeA s _
 .exact⟨rfl,rfl,rfl⟩
def qeB{s:Nt}{l:List UInt8}{k:Fl}(h:lA l 0 (3405803777+k.a) k.port=0):s.leave l k=s.lv l k.rem k.a k.port:=by
 unfold Nt.leave Nt.lv
 rw[h]
section
variable {P:Fl->Bool} {fs:List (Nat×Fl)} {j:Nat} {x:Nat×Fl}
def qB(P:Fl->Bool)(fs:List (Nat×Fl))(j:Nat):Mp:=(((fs.take j).find? fun y=>P y.2).map fun y=>dZ y.2).getD fW
def qeC(hj:fs[j]?=some x)(h:P x.2=false):qB P fs (j+1)=qB P fs j:=by
 obtain⟨h1,h2⟩:=aJ.1 hj
 unfold qB
 rw[bz h1,o5,h2]
 simp[h]
def qeD(hj:fs[j]?=some x)(h:P x.2=true)(hp:fs.Pairwise (fun x y=>¬(P x.2=true/\P y.2=true))):qB P fs (j+1)=dZ x.2:=by
 obtain⟨h1,h2⟩:=aJ.1 hj
 unfold qB
 rw[bz h1,o5,h2]
 have e:(fs.take j).find? (fun y=>P y.2)=none:=by
  rw[List.find?_eq_none];intro y hy
  obtain⟨i,hi,rfl⟩:=List.mem_take_iff_getElem.1 hy
  rw[List.pairwise_iff_getElem] at hp
  have:=hp i j om h1 om
  rw[h2] at this
  intro q
  exact this ⟨q,h⟩
 rw[e]
 simp[h]
end
section
open Go.ChangeShapes Go.WideShapes Go.ChangeAt Go.RowKit Go.Maps
def qeE(n:Nat):Code->Bool
 | .region k _ _=>k==n
 | _=>false
def uj(n:Nat):Code->Option Code
 | .seq a b=>if qeE n a then some (.seq a b) else(uj n a).or (uj n b)
 | .block _ c=>uj n c
 | .loop c=>uj n c
 | .scope c=>uj n c
 | .cond _ a b=>(uj n a).or (uj n b)
 | _=>none
def cdR(f:Func)(n:Nat):Code:=(f.body.bind (uj n)).getD .skip
def exK{a:Act}{X:(Nat->Value)->World->Prop}(h:∀g w,X g w->K (cJ n g) w)(hX:X (sl a) w)(hs:Nat.beq a.tmps.size n=true:=by kernel_rfl)(hd:a.defers=[]:=by exact rfl):K a w:=by
 rw[yD (Nat.eq_of_beq_eq_true hs) hd];exact h _ _ hX
def si(q:Rp×Nt)(lg:ByteArray):Rp×Nt:=(⟨q.1.code,q.1.fr,q.1.i7,lg⟩,q.2)
structure EC where
 c2:Nat
 c3:Nat
 c4:Nat
 c5:Nat
 c7:Nat
 c10:Nat
def pP(C:EC)(a:Int)(f:Nat->ag):Prop:=[f 2,f 3,f 4,f 5,f 6,f 7,f 9,f 10]=[V (some ⟨C.c2,0,none⟩),V (some ⟨C.c3,0,none⟩),V (some ⟨C.c4,0,none⟩),V (some ⟨C.c5,0,none⟩),.func (.func 48) #[] #[V (some ⟨C.c2,0,none⟩),V (some ⟨C.c5,0,none⟩),V (some ⟨C.c3,0,none⟩)],V (some ⟨C.c7,0,none⟩),I Z a,V (some ⟨C.c10,0,none⟩)]
def zw(C:EC)(b:Nat)(p:bM)(k:Ac)(m:Mp)(R:List Cp):List Cp:=cR 72 C.c10 (mc m)::cR 77 C.c7 (dm p)::cR 63 C.c5 #[.func (.func 47) #[] #[]]::cR 29 C.c4 (eZ 0).cells::cR 32 C.c3 (ac k)::cR 25 C.c2 #[V (some ⟨b,0,none⟩)]::R
section
variable (G:Nat->Prop) (w:World) (C:EC) (a:Int) (b:Nat) (p:bM) (k:Ac) (r:Rp×Nt)
def XT(f:Nat->ag)(W:af):Prop:=∃lg s' m T' F' jG,pP C a f/\f 11=.string lg/\FM b s'/\(0<=m.2.2.2.1/\m.2.2.2.1<3)/\aK (r=si (s'.lv k.fr.data.toList p.dst m.2.2.2.1 m.2.2.2.2) lg)/\Dz G w W (zw C b p k m (bD b s' T' F' jG))
def PO:Exit->Act->af->Prop:=bodyPost ah f23 fun e w'=>e=.returned (.agg r.1.cells)/\∃T' F' jG,Dz G w w' (bD b r.2 T' F' jG)
end
def qeF{C:EC}{p:bM}{r:Rp×Nt}(hs:k.fr.size<=140737488351232)(f:Nat->ag)(W:af)(h:XT G w C a b p k r f W):(cdR f23 36).wp ah (PO G w b r) (cJ 223 f) W:=by
 obtain⟨lg,s',m,T',F',jG,hS,f11,CI,hka,HR,B⟩:=h;obtain⟨c2,c3,c4,c5,c7,c10⟩:=C
 unfold pP at hS
 simp only[aO,and_true] at hS
 obtain⟨f2,f3,f4,f5,f6,f7,f9,f10⟩:=hS
 conv=>arg 2;whnf
 simp only[cJ,aA,aF,aB,aI,f2,f3,f4,f5,f6,f7,f9,f10,f11]
 clear f2 f3 f4 f5 f6 f7 f9 f10 f11
 unfold PO
 unfold zw at B
 (have CT:=fun w=>Rf k.fr 0 (3405803777+m.2.2.2.1) m.2.2.2.2 w hs);(have ng:bK (3405803777+m.2.2.2.1)=3405803777+m.2.2.2.1:=by unfold bK;omega);(replace CI:=fun W T F Iq hB=>CI W T F Iq (nI k.fr.data.toList 0 (3405803777+m.2.2.2.1) m.2.2.2.2) hB (by have:=qy4 k.fr.data.toList 0 (3405803777+m.2.2.2.1) m.2.2.2.2;rw[show k.fr.data.toList.length=k.fr.size from Array.length_toList] at *;omega))
 unfold gR at CI
 unfold Nt.lv at HR
 clear hka hs
 by_cases hd:0<=p.dst-3405803777/\p.dst-3405803777<3
 .rw[aZ hd] at HR
  (have g0:decide (3405803777<=p.dst)=true:=by simp;omega);(have g1:decide (p.dst<=3405803779)=true:=by simp;omega)
  generalize s'.i7 (nI k.fr.data.toList 0 (3405803777+m.2.2.2.1) m.2.2.2.2).data.toList=q at HR CI
  clear hd
  go_wp2_with (first|(refine iz (t:=29) ?_;refine iN ?_;clear B;intro P1 W B)|(go_at_call 58;go_fit (CT _);refine kg ?_;clear B;intro W B)|(go_at_call 24;go_fit (CI _ _ _ _ (B.only 7));rintro e W ⟨rfl,T1,F1,I1,hk⟩;replace B:=B.call 7 hk;clear hk)|(refine fe (t:=9) ?_;refine ld B 0 (Rp.cells ⟨q.1.code,q.1.fr,q.1.i7,lg⟩) ?_;clear B;intro W B)|(refine eG ?_;first|refine gJ ?_|refine iF ?_|refine eP ?_)|(refine fe ?_;(first|refine dD B 0 ?_|refine dD B 4 ?_);clear B;intro W B))
  rw[HR.out]
  exact jT ⟨rfl,T1,F1,I1,B.drop 7⟩
 .rw[aT hd] at HR
  have HR':aK (r=(⟨0,nI k.fr.data.toList 0 (3405803777+m.2.2.2.1) m.2.2.2.2,false,lg⟩,s')):=HR;(have hg:decide (3405803777<=p.dst)=false\/decide (3405803777<=p.dst)=true/\decide (p.dst<=3405803779)=false:=by simp;omega);clear CI hd HR
  generalize nI k.fr.data.toList 0 (3405803777+m.2.2.2.1) m.2.2.2.2=q at HR' CT
  rcases hg with g0|⟨g0,g1⟩
  all_goals
   go_wp2_with (first|(refine iz (t:=29) ?_;refine iN ?_;clear B;intro P1 W B)|(go_at_call 58;go_fit (CT _);refine kg ?_;clear B;intro W B)|(refine fe (t:=9) ?_;refine ld B 0 (Rp.cells ⟨0,q,false,lg⟩) ?_;clear B;intro W B)|(refine eG ?_;first|refine gJ ?_|refine iF ?_|refine eP ?_)|(refine fe ?_;(first|refine dD B 0 ?_|refine dD B 4 ?_);clear B;intro W B))
   rw[HR'.out]
   exact jT ⟨rfl,T',F',jG,B.drop 7⟩
def otO(F:Func):Code:=(F.body.bind (rQ 28)).getD .skip
section
variable (G:Nat->Prop) (w:World) (C:EC) (a:Int) (b:Nat) (p:bM) (k:Ac) (s:Nt) (T F Iq:Sl) (o:MF)
def XO(f:Nat->ag)(W:af):Prop:=∃zU wE sa n' c',pP C a f/\f 11=.string ak/\f 15=V (some ⟨zU,0,none⟩)/\f 16=V (some ⟨wE,0,none⟩)/\f 17=.bool o.took/\f 18=I Z o.e/\Dz G w W (cR 72 wE (mc o.m)::cR 42 zU (tc o.f s.g o.h (.slice sa n' c'))::zw C b p k fW [cR 46 b (i5 s T F Iq),cL 75 10 F.v s.fs.length (iy s.fs),cL 3 1 Iq.v s.fs.length (gQ s.fs),if o.e=0 then cM (.slice sa n' c') o.ms else cM T.v s.ms])
end
def xi(h:p:=by
 unfold bD at B;simp only[List.take_succ_cons,List.take_zero,List.cons_append,List.nil_append] at B
 refine⟨_,rfl,zv (fM ?_)⟩
 go_wp2
 first
  | exact exK HK.out ⟨ByteArray.empty,_,o.m,T4,F4,I4,by unfold pP;kernel_rfl,by kernel_rfl,h6,HKA.out,FR,B.drop 2⟩
  | exact exK HK.out ⟨_,_,o.m,T4,F4,I4,by unfold pP;kernel_rfl,by kernel_rfl,h7,HKA.out,FR,B.drop 3⟩):p:=h
def qeG{C:EC}{p:bM}{r:Rp×Nt}{s:Nt}(ED:aK (k.fr.size<=140737488351232))(HL4:aK (s.left<=4))(O8:aK (0<=s.now/\s.now<=549755813888))(SN:aK (s.began<1000))(zo:aK (s.fs.length<1000))(HLG:aK (s.logged<=100000))(hwd:0<=cV p.ae (eI p.ae)/\cV p.ae (eI p.ae)<=60)(H4:o.e≠0->r=s.refuse k.fr.data.toList o.e)(H5:o.e=0->((0<=o.m.2.2.2.1/\o.m.2.2.2.1<3)/\(1024<=o.m.2.2.2.2/\o.m.2.2.2.2<1072)/\o.m.2.1=a/\o.m.1=p.ae)/\(o.took=false->FM b ((s.dF o.f o.h o.ms).begin (eV o.m p.dst p.ai (eI p.ae)))/\r=si (((s.dF o.f o.h o.ms).begin (eV o.m p.dst p.ai (eI p.ae))).lv k.fr.data.toList p.dst o.m.2.2.2.1 o.m.2.2.2.2) ak)/\(o.took=true->FM b (((s.dF o.f o.h o.ms).told (s.logged+1)).begin (eV o.m p.dst p.ai (eI p.ae)))/\r=si ((((s.dF o.f o.h o.ms).told (s.logged+1)).begin (eV o.m p.dst p.ai (eI p.ae))).lv k.fr.data.toList p.dst o.m.2.2.2.1 o.m.2.2.2.2) ((s.dF o.f o.h o.ms).log [oF s.now o.m false]).1))(HK:aK (∀g W,XT G w C a b p k r g W->K (cJ 223 g) W))(f:Nat->ag)(W:af)(h:XO G w C a b p k s T F Iq o f W):(otO f23).wp ah (Exit.then K (PO G w b r)) (cJ 223 f) W:=by
 obtain⟨zU,wE,sa,n',c',hS,f11,f15,f16,f17,f18,B⟩:=h;obtain⟨c2,c3,c4,c5,c7,c10⟩:=C
 unfold pP at hS
 simp only[aO,and_true] at hS
 obtain⟨f2,f3,f4,f5,f6,f7,f9,f10⟩:=hS
 conv=>arg 2;whnf
 simp only[cJ,aA,aF,aB,aI,f2,f3,f4,f5,f6,f7,f9,f10,f11,f15,f16,f17,f18]
 clear f2 f3 f4 f5 f6 f7 f9 f10 f11 f15 f16 f17 f18
 unfold zw at B
 by_cases he:o.e=0
 .rw[aZ he] at B
  obtain⟨⟨hka,hq,hsu,rb⟩,H6,H7⟩:=H5 he;(have hz:(o.e != 0)=false:=by simpa using he);(have MN:0<=cV (eV o.m p.dst p.ai (eI p.ae)).pr (eV o.m p.dst p.ai (eI p.ae)).st/\cV (eV o.m p.dst p.ai (eI p.ae)).pr (eV o.m p.dst p.ai (eI p.ae)).st<=60:=by show 0<=cV o.m.1 (eI p.ae)/\cV o.m.1 (eI p.ae)<=60;rw[rb];exact hwd);(have CF:=fun w=>qeH p w);have HQ2:aK _:=hq;have HWL:aK _:=MN;have HSU:aK (o.m.2.1=a):=hsu;have HKA:aK _:=hka;clear H4 H5 he hq MN hsu rb hka hwd
  go_upto_region 31 with fail
  refine nZ B 8 [6] ?_;clear B;intro W B A;refine er [0,1,2,3,4] ?_;refine fQ 5 ?_
  refine OW (v:=.agg (tc o.f s.g o.h (.slice sa n' c'))) B 8 ?_ (hd:=by exact PW s T F Iq o.f o.h s.g o.ms ⟨sa,n',c'⟩)
  clear B A;intro W B;refine xh ?_;intro A;refine fQ 6 ?_;refine ksw B 2 ?_;clear B A;intro W B;refine zv (fM ?_)
  cases wP:o.took with
  | false=>
   obtain⟨h6,h6r⟩:=H6 wP;have FR:aK _:=h6r;clear H6 H7 h6r
   go_upto_region 35 with fail
   (try simp only[aQ,aR] at B)
   refine nZ B 99 [9] ?_;clear B;intro W B A;refine er [0,1,2,3,4,5,6] ?_;refine OZ 7 B (CF _) ?_;clear B A;intro W B A;refine mi ?_;refine dTf 8 ?_;refine mi ?_;refine fQ 9 ?_;refine kc (Mv (B.only 8) (eV o.m p.dst p.ai (eI p.ae)) O8.out HWL.out SN.out zo.out) ?_;rintro e W ⟨rfl,T4,F4,I4,hk⟩;replace B:=B.call 8 hk;clear hk
   exact xi
  | true=>
   obtain⟨h7,h7r⟩:=H7 wP
   rw[show oF s.now o.m false=⟨s.now,a,o.m.2.2.2.1,fL o.m.2.2.2.2,false⟩ by unfold oF fL;rw[HSU.out]] at h7r
   have FR:aK _:=h7r;(have CK:=fun w=>yb o.m.2.2.2.2 w HQ2.out);clear H6 H7 h7r
   go_upto_region 34 with(first|(go_at_call 54;go_fit (CK _);rintro e W ⟨rfl,rfl⟩)|(refine eG ?_;first|refine gJ ?_|refine iF ?_|refine eP ?_))
   (try simp only[aQ,aR] at B)
   refine nZ B 99 [11] ?_;clear B;intro W B A;refine er [0,1,2,3,4,5,6,7,8,9] ?_;refine fQ 10 ?_;refine Hm (v:=.agg (ec ⟨s.now,a,o.m.2.2.2.1,fL o.m.2.2.2.2,false⟩)) B ?_;clear B A;intro ce W B;refine xh ?_;intro A;refine fQ 11 ?_;have D8:Dz (lc (bD b (s.dF o.f o.h o.ms) ⟨sa,n',c'⟩ F Iq)) W W (bD b (s.dF o.f o.h o.ms) ⟨sa,n',c'⟩ F Iq):=B.only 9;have CL:=Sv D8 (.slice (some ⟨ce,0,none⟩) 1 1) [⟨s.now,a,o.m.2.2.2.1,fL o.m.2.2.2.2,false⟩] (qco (B.row 0 rfl)) (Nat.le_of_ble_eq_true rfl) HLG.out;clear D8
   unfold gR at CL
   refine kc CL ?_;clear CL;rintro e W ⟨rfl,T3,F3,I3,hk⟩;replace B:=B.call 9 hk;clear hk
   rw[SL] at B
   unfold bD at B;simp only[List.take_succ_cons,List.take_zero,List.cons_append,List.nil_append] at B
   refine⟨_,rfl,zv ?_⟩
   refine er [12] ?_;refine fM ?_
   go_upto_region 35 with fail
   (try simp only[aQ,aR] at B)
   refine nZ B 99 [9] ?_;clear B;intro W B A;refine er [0,1,2,3,4,5,6] ?_;refine OZ 7 B (CF _) ?_;clear B A;intro W B A;refine mi ?_;refine dTf 8 ?_;refine mi ?_;refine fQ 9 ?_;refine kc (Mv (B.only 9) (eV o.m p.dst p.ai (eI p.ae)) O8.out HWL.out SN.out zo.out) ?_;rintro e W ⟨rfl,T4,F4,I4,hk⟩;replace B:=B.call 9 hk;clear hk
   exact xi
 .rw[aT he] at B
  (have hz:(o.e != 0)=true:=by simpa using he);have FR:aK _:=H4 he
  unfold PO
  clear H4 H5 he
  go_wp2_with (first|(go_at_call 48;go_fit (Sg (b2:=c2) (b3:=c3) (b5:=c5) (k:=k) (y:=cR 29 c4 (eZ 0).cells) (s:=s) (T:=T) (F:=F) (Iq:=Iq) o.e (B.only 4) ED.out HL4.out);rintro e W ⟨rfl,hk⟩;replace B:=B.call 4 hk;clear hk)|(refine eG ?_;first|refine gJ ?_|refine iF ?_|refine eP ?_)|(refine fe ?_;refine dD B 5 ?_;clear B;intro W B))
  rw[FR.out]
  exact jT ⟨rfl,T,_,Iq,B.drop 8⟩
def FT:Code->Option Nat
 | .region k _ _=>some k
 | .seq a _=>FT a
 | .block _ c=>FT c
 | .scope c=>FT c
 | _=>none
def Hp(n:Nat):Code->Option Code
 | .cond _ a b=>if FT a==some n then some a else(Hp n a).or (Hp n b)
 | .seq a b=>(Hp n a).or (Hp n b)
 | .block _ c=>Hp n c
 | .loop c=>Hp n c
 | .scope c=>Hp n c
 | _=>none
def otN(F:Func):Code:=(F.body.bind (Hp 24)).getD .skip
def OpC(s:Nt)(p:bM)(a d:Int)(o:MF):Prop:=∀(v:ag) W,cE W v s.ms->jw v->Calls ah 53 #[.agg (tc s.f s.g s.h v),I Z p.ae,I Z a,I Z p.aj,I Z d] W fun e w2=>∃sa n c,e=.returned (.tuple #[.agg (tc o.f s.g o.h (.slice sa n c)),.agg (mc o.m),.bool o.took,I Z o.e])/\cE w2 (.slice sa n c) o.ms/\jw (.slice sa n c)/\(0<o.ms.length->W.heap.size<=mb (.slice sa n c)\/(mb (.slice sa n c)=mb v/\0<s.ms.length))/\aq W.heap.size W w2
def BG(h:p:=by
 refine fQ 19 ?_;refine iG B 0 ?_;clear B A;intro W B A;refine mi ?_;refine fQ 20 ?_;refine iG B 1 ?_;clear B A;intro W B A;refine er [21,22] ?_
 exact fM (endF ⟨_,_,_,_,_,by unfold pP;kernel_rfl,by kernel_rfl,by kernel_rfl,by kernel_rfl,by kernel_rfl,by kernel_rfl,B.swap⟩)):p:=h
def BH(h:p:=by
 refine fQ 19 ?_;refine iG B 1 ?_;clear B A;intro W B A;refine mi ?_;refine fQ 20 ?_;refine iG B 0 ?_;clear B A;intro W B A;refine er [21,22] ?_
 exact fM (endF ⟨_,_,_,_,_,by unfold pP;kernel_rfl,by kernel_rfl,by kernel_rfl,by kernel_rfl,by kernel_rfl,by kernel_rfl,B⟩)):p:=h
def BI(h:p:=by
 refine fQ 18 ?_;refine tA B ?_;clear B A;intro wE W B A;refine mi ?_
 exact BH):p:=h
def xj(h:p:=by
 refine fQ 17 ?_;refine tA B ?_;clear B A;intro zU W B A;refine mi ?_
 exact BG):p:=h
def qeI{C:EC}{p:bM}{r:Rp×Nt}{s:Nt}(ED:aK (k.fr.size<=140737488351232))(HL4:aK (s.left<=4))(k7:0<=p.flags/\p.flags<=63)(hl:s.fs.length<=48)(CO:OpC s p a k.dr o)(H2:mj p=false->r=(eZ 11,s))(H3:mj p=true->48<=s.fs.length->r=s.refuse k.fr.data.toList 6)(HO:aK (mj p=true->s.fs.length<48->∀g W,XO G w C a b p k s T F Iq o g W->(otO f23).wp ah (Exit.then K (PO G w b r)) (cJ 223 g) W))(f:Nat->ag)(W:af)(hS:pP C a f)(f11:f 11=.string ak)(B:Dz G w W (zw C b p k fW (bD b s T F Iq))):(otN f23).wp ah (Exit.then K (PO G w b r)) (cJ 223 f) W:=by
 (have CG:=fun w=>qeJ p k7.1 k7.2 w);obtain⟨c2,c3,c4,c5,c7,c10⟩:=C;obtain⟨fa,fn,oG⟩:=F
 unfold pP at hS
 simp only[aO,and_true] at hS
 obtain⟨f2,f3,f4,f5,f6,f7,f9,f10⟩:=hS
 conv=>arg 2;whnf
 simp only[cJ,aA,aF,aB,aI,f2,f3,f4,f5,f6,f7,f9,f10,f11]
 clear f2 f3 f4 f5 f6 f7 f9 f10 f11 k7
 unfold zw bD at B
 obtain⟨rfl,-⟩:fn=s.fs.length/\(0<s.fs.length->∃g,fa=some ⟨g,0,none⟩):=n4 (B.at 7 rfl)
 cases hbg:mj p with
 | false=>
  have FR:aK _:=H2 hbg
  rw[hbg] at CG
  (have CN:=fun w=>yz 11 w)
  unfold PO
  clear H2 H3 CO HO hl
  go_wp2_with (first|(go_at_call 52;go_fit (CG _);refine kg ?_;clear B;intro W B)|(go_at_call 47;go_fit (CN _);refine kg ?_;clear B;intro W B)|(refine eG ?_;first|refine gJ ?_|refine iF ?_|refine eP ?_)|(refine fe ?_;refine dD B 3 ?_;clear B;intro W B))
  rw[FR.out]
  exact jT ⟨rfl,T,_,Iq,B.drop 6⟩
 | true=>
  rw[hbg] at CG
  cases yG:(s.fs.length:Int)==48 with
  | true=>
   have FR:aK _:=H3 hbg (by simp at yG;omega)
   unfold PO
   clear H2 H3 CO HO hl
   go_wp2_with (first|(go_at_call 52;go_fit (CG _);refine kg ?_;clear B;intro W B)|(go_at_call 48;go_fit (Sg (b2:=c2) (b3:=c3) (b5:=c5) (k:=k) (y:=cR 29 c4 (eZ 0).cells) (s:=s) (T:=T) (F:=⟨fa,_,oG⟩) (Iq:=Iq) 6 (B.only 2) ED.out HL4.out);rintro e W ⟨rfl,hk⟩;replace B:=B.call 2 hk;clear hk)|(refine eG ?_;first|refine gJ ?_|refine iF ?_|refine eP ?_)|(refine fe ?_;refine dD B 3 ?_;clear B;intro W B))
   rw[FR.out]
   exact jT ⟨rfl,T,_,Iq,B.drop 6⟩
  | false=>
   (have h47:s.fs.length<48:=by simp at yG;omega);have HO2:=ar (HO.out hbg h47);clear H2 H3 HO h47 hl
   go_upto_region 28 with(first|(go_at_call 52;go_fit (CG _);refine kg ?_;clear B;intro W B)|(refine eG ?_;first|refine gJ ?_|refine iF ?_|refine eP ?_))
   rename_i K2 hK2
   refine FN (n:=223) (XO G w ⟨c2,c3,c4,c5,c7,c10⟩ a b p k s T ⟨fa,s.fs.length,oG⟩ Iq o) ?_ (fun g W hX=>hK2 _ _ (HO2.out g W hX))
   clear hK2 HO2;refine nZ B 9 [] ?_;clear B;intro W B A;refine SP ?_
   refine qdB 11 17 18 (nx ?_) (nx ?_) (nx ?_)
   .refine kc (CO _ _ (B.at 9 rfl).1 (B.at 9 rfl).2) ?_
    rintro e W ⟨sa,n',c',rfl,hM,hN,hq,hb⟩
    replace B:=B.pO (P:=o.e=0) 9 rfl hb hM hN hq
    refine⟨_,rfl,nJ ?_⟩
    clear A hM hN hq hb;intro A;refine er [12,13,14,15,16] ?_
    refine qw 17 18 (nx ?_) (nx ?_)
    .refine tA B ?_;clear B A;intro zU W B A;refine mi ?_
     exact BI
    .refine tA B ?_;clear B A;intro wE W B A;refine mi ?_
     exact xj
   .refine tA B ?_;clear B A;intro zU W B A;refine mi ?_
    refine qw 11 18 (nx ?_) (nx ?_)
    .refine kc (CO _ _ (B.at 10 rfl).1 (B.at 10 rfl).2) ?_
     rintro e W ⟨sa,n',c',rfl,hM,hN,hq,hb⟩
     replace B:=B.pO (P:=o.e=0) 10 rfl hb hM hN hq
     refine⟨_,rfl,nJ ?_⟩
     clear A hM hN hq hb;intro A;refine er [12,13,14,15,16] ?_
     exact BI
    .refine tA B ?_;clear B A;intro wE W B A;refine mi ?_;refine fQ 11 ?_;refine kc (CO _ _ (B.at 11 rfl).1 (B.at 11 rfl).2) ?_
     rintro e W ⟨sa,n',c',rfl,hM,hN,hq,hb⟩
     replace B:=B.pO (P:=o.e=0) 11 rfl hb hM hN hq
     refine⟨_,rfl,nJ ?_⟩
     clear A hM hN hq hb;intro A;refine er [12,13,14,15,16] ?_
     exact BH
   .refine tA B ?_;clear B A;intro wE W B A;refine mi ?_
    refine qw 11 17 (nx ?_) (nx ?_)
    .refine kc (CO _ _ (B.at 10 rfl).1 (B.at 10 rfl).2) ?_
     rintro e W ⟨sa,n',c',rfl,hM,hN,hq,hb⟩
     replace B:=B.pO (P:=o.e=0) 10 rfl hb hM hN hq
     refine⟨_,rfl,nJ ?_⟩
     clear A hM hN hq hb;intro A;refine er [12,13,14,15,16] ?_
     exact xj
    .refine tA B ?_;clear B A;intro zU W B A;refine mi ?_;refine fQ 11 ?_;refine kc (CO _ _ (B.at 11 rfl).1 (B.at 11 rfl).2) ?_
     rintro e W ⟨sa,n',c',rfl,hM,hN,hq,hb⟩
     replace B:=B.pO (P:=o.e=0) 11 rfl hb hM hN hq
     refine⟨_,rfl,nJ ?_⟩
     clear A hM hN hq hb;intro A;refine er [12,13,14,15,16] ?_
     exact BG
section
variable (G:Nat->Prop) (w:World) (C:EC) (a:Int) (b:Nat) (p:bM) (k:Ac) (s:Nt) (T F Iq:Sl)
def JF(q:Nat)(f:Nat->ag)(W:af):Prop:=∃j:Nat,q=s.fs.length-j/\j<=s.fs.length/\pP C a f/\[f 11,f 12,f 66,f 67,f 68]=[.string ak,.bool ((s.fs.take j).any fun y=>cX p a y.2),F.v,I Z (s.fs.length:Int),I Z (j:Int)]/\Dz G w W (zw C b p k (qB (cX p a) s.fs j) [cR 46 b (i5 s T F Iq),cL 75 10 F.v s.fs.length (iy (qi (cX p a) (fun k=>cq k p.flags false s.now) s.fs j)),cL 3 1 Iq.v s.fs.length (gQ s.fs),cM T.v s.ms])
end
theorem qeK{p:bM}{x:Fl}(h:cX p a x=false):(x.s==a)=false\/(x.s==a)=true/\((x.pr==p.ae)=false\/(x.pr==p.ae)=true/\((x.i==p.aj)=false\/(x.i==p.aj)=true/\((x.rem==p.dst)=false\/(x.rem==p.dst)=true/\(x.rp==p.ai)=false))):=by
 unfold cX at h
 cases h1:x.s==a<;>cases h2:x.pr==p.ae<;>cases h3:x.i==p.aj<;>cases h4:x.rem==p.dst<;>cases h5:x.rp==p.ai<;>simp_all
def qeL{C:EC}{p:bM}{s:Nt}(hn:0<=s.now/\s.now<=549755813888)(hl:s.fs.length<=48)(hap:s.fs.Pairwise (fun x y=>¬(cX p a x.2=true/\cX p a y.2=true)))(hx:∀g W,JF G w C a b p k s T F Iq 0 g W->Q (.exit 0) (cJ 223 g) W)(q:Nat)(f:Nat->ag)(W:af)(h:JF G w C a b p k s T F Iq q f W):
  (uh f23 0).wp ah (Exit.then (ri 223 (JF G w C a b p k s T F Iq) q) Q) (cJ 223 f) W:=by
 obtain⟨j,hk,hj,hS,hV,B⟩:=h;obtain⟨c2,c3,c4,c5,c7,c10⟩:=C;obtain⟨fa,fn,oG⟩:=F
 unfold pP at hS
 simp only[aO,and_true] at hS hV
 obtain⟨f2,f3,f4,f5,f6,f7,f9,f10⟩:=hS;obtain⟨f11,f12,f66,f67,f68⟩:=hV
 unfold zw at B
 obtain⟨rfl,hg⟩:fn=s.fs.length/\(0<s.fs.length->∃g,fa=some ⟨g,0,none⟩):=n4 (B.at 7 rfl)
 conv=>arg 2;whnf
 simp only[cJ,aA,aF,aB,aI,f2,f3,f4,f5,f6,f7,f9,f10,f11,f12,f66,f67,f68]
 clear f2 f3 f4 f5 f6 f7 f9 f10 f11 f12 f66 f67 f68
 unfold Sl.v at B ⊢
 have HX:=ar hx;have HK:=ar hk;have HAP:=ar hap;have SQ:aK (0<=s.now):=hn.1;have HN1:aK (s.now<=1099511627776):=ar om;clear hx hk hap hn
 by_cases hlt:j<s.fs.length
 .obtain⟨g,rfl⟩:=hg om
  obtain⟨x,hx⟩:∃x,s.fs[j]?=some x:=⟨_,List.getElem?_eq_getElem hlt⟩
  have HE:aK (_=(fc x.2).toList):=ug _ 10 pN _ _ _ (Sk (P:=cX p a) (g:=fun k=>cq k p.flags false s.now) hx);(have sk:=fun w=>Hn g s.fs.length oG j hlt w);(have kQ:(j:Int)<(s.fs.length:Int):=by omega);have fU:=oQ (p:=j) om;have HQ:aK _:=FK (cX p a) hx;have BJ:aK _:=hx;have fR:aK _:=hlt;clear hj hl hg hx hlt
  cases n2:cX p a x.2 with
  | false=>
   have HZ:aK _:=FJ (g:=fun k=>cq k p.flags false s.now) BJ.out n2;have HJ2:aK _:=qeC BJ.out n2
   rcases qeK n2 with e1|⟨e1,e2|⟨e2,e3|⟨e3,e4|⟨e4,e5⟩⟩⟩⟩
   all_goals
    go_wp2_with (first|(refine iz (t:=75) ?_;refine iN ?_;clear B;intro mG W B)|(refine eG (t:=75) ?_;refine Bt 7 B HE.out ?_)|(refine eG ?_;first|refine gJ ?_|refine iF ?_|refine eP ?_)|(refine fe ?_;refine dD B 0 ?_;clear B;intro W B))
    exact je (s.fs.length-(j+1)) (by have:=HK.out;have:=fR.out;omega) ⟨j+1,rfl,fR.out,by unfold pP;kernel_rfl,by rw[HQ.out,n2,Bool.or_false];kernel_rfl,by rw[HZ.out,HJ2.out];exact B.drop 1⟩
  | true=>
   have HZ:aK _:=Sm (g:=fun k=>cq k p.flags false s.now) BJ.out n2;have HJ2:aK _:=qeD BJ.out n2 HAP.out;(have HS:aK _:=Sh (fun y:Nat×Fl=>(fc y.2).toList) 10 pN (qi (cX p a) (fun k=>cq k p.flags false s.now) s.fs j) j (x.1,cq x.2 p.flags false s.now) (by rw[Sj];exact fR.out));have HJ:aK (j*10+10<=s.fs.length*10):=ar (by have:=fR.out;omega);(have CX:=fun W=>qeM x.2 p s.now SQ HN1 W);have hq:=n2
   unfold cX at hq
   simp only[Bool.and_eq_true] at hq
   obtain⟨⟨⟨⟨e2,e1⟩,e3⟩,e4⟩,e5⟩:=hq
   go_upto_region 20 with(first|(refine iz (t:=75) ?_;refine iN ?_;clear B;intro mG W B)|(refine eG (t:=75) ?_;refine Bt 7 B HE.out ?_)|(refine eG ?_;first|refine gJ ?_|refine iF ?_|refine eP ?_)|(refine fe ?_;refine dD B 0 ?_;clear B;intro W B))
   refine nZ B 99 [13] ?_;clear B;intro W B A;refine SP ?_;refine OZ 11 B (CX _) ?_;clear B A;intro W B A;refine er [12] ?_;refine fQ 13 ?_
   refine kse B 8 ?_ HS.out HJ.out
   clear B A;intro W B;refine zv (fM ?_)
   go_wp2_with (first|(refine eG ?_;first|refine gJ ?_|refine iF ?_|refine eP ?_)|(refine fe ?_;refine dD B 1 ?_;clear B;intro W B))
   exact je (s.fs.length-(j+1)) (by have:=HK.out;have:=fR.out;omega) ⟨j+1,rfl,fR.out,by unfold pP;kernel_rfl,by rw[HQ.out,n2,Bool.or_true];kernel_rfl,by rw[HZ.out,HJ2.out];exact B.drop 1⟩
 ·(have kQ:¬(j:Int)<(s.fs.length:Int):=by omega)
  obtain rfl:j=s.fs.length:=by omega
  clear hg hlt hj hl
  go_wp2
  exact rj HX.out ⟨s.fs.length,by omega,Nat.le_refl _,by unfold pP;kernel_rfl,by rw[bn];kernel_rfl,B⟩
def qeN{s:Nt}(B:Dz (lc (bD b s T F Iq)) w w (bD b s T F Iq))(k:Ac)(hs:k.fr.size<=140737488351232)(p:bM)(hp:ba k.fr.data.toList=p)(hb:cj k.fr.data.toList=0)(a:Int)(ha:a=p.src-167772161)(h0:¬a<0)(h1:¬7<a)(h3:¬(p.ae=1/\p.flags=0))(q3:(p.aG==1)=false)(hn:0<=s.now/\s.now<=549755813888)(uk:s.fs.length<=48)(hu:s.fs.Pairwise (fun x y=>x.1<y.1))(hap:s.fs.Pairwise (fun x y=>¬(cX p a x.2=true/\cX p a y.2=true)))(hl4:s.left<=4)(hbg:s.began<1000)(jr:s.logged<=100000)(hwd:0<=cV p.ae (eI p.ae)/\cV p.ae (eI p.ae)<=60)(k7:0<=p.flags/\p.flags<=63)(o:MF)(CO:OpC s p a k.dr o)(r:Rp×Nt)(H1:∀x,s.fs.find? (fun y=>cX p a y.2)=some x->FM b (s.keep x.1 (cq x.2 p.flags false s.now))/\(0<=x.2.a/\x.2.a<3)/\r=si ((s.keep x.1 (cq x.2 p.flags false s.now)).lv k.fr.data.toList p.dst x.2.a x.2.port) ak)(H2:s.fs.find? (fun y=>cX p a y.2)=none->mj p=false->r=(eZ 11,s))(H3:s.fs.find? (fun y=>cX p a y.2)=none->mj p=true->48<=s.fs.length->r=s.refuse k.fr.data.toList 6)(H4:s.fs.find? (fun y=>cX p a y.2)=none->mj p=true->s.fs.length<48->o.e≠0->r=s.refuse k.fr.data.toList o.e)(H5:s.fs.find? (fun y=>cX p a y.2)=none->mj p=true->s.fs.length<48->o.e=0->((0<=o.m.2.2.2.1/\o.m.2.2.2.1<3)/\(1024<=o.m.2.2.2.2/\o.m.2.2.2.2<1072)/\o.m.2.1=a/\o.m.1=p.ae)/\(o.took=false->FM b ((s.dF o.f o.h o.ms).begin (eV o.m p.dst p.ai (eI p.ae)))/\r=si (((s.dF o.f o.h o.ms).begin (eV o.m p.dst p.ai (eI p.ae))).lv k.fr.data.toList p.dst o.m.2.2.2.1 o.m.2.2.2.2) ak)/\(o.took=true->FM b (((s.dF o.f o.h o.ms).told (s.logged+1)).begin (eV o.m p.dst p.ai (eI p.ae)))/\r=si ((((s.dF o.f o.h o.ms).told (s.logged+1)).begin (eV o.m p.dst p.ai (eI p.ae))).lv k.fr.data.toList p.dst o.m.2.2.2.1 o.m.2.2.2.2) ((s.dF o.f o.h o.ms).log [oF s.now o.m false]).1)):gR 23 #[V (some ⟨b,0,none⟩),.agg (ac k)] w b s T F Iq (.agg r.1.cells) r.2:=by
 unfold gR
 generalize lc (bD b s T F Iq)=G at B ⊢
 have HF:aK (∀C g W,JF G w C a b p k s T F Iq 0 g W->∀x,s.fs.find? (fun y=>cX p a y.2)=some x->∃s' m T' F' jG,FM b s'/\(0<=m.2.2.2.1/\m.2.2.2.1<3)/\aK (r=si (s'.lv k.fr.data.toList p.dst m.2.2.2.1 m.2.2.2.2) ak)/\Dz G w W (zw C b p k m (bD b s' T' F' jG))):=ar (fun C g W h x hx=>by
  obtain⟨j,hk,hj,hS,hV,B⟩:=h
  obtain rfl:j=s.fs.length:=by omega
  simp only[aO,and_true] at hV
  rw[Sn hu hap,hx,show qB (cX p a) s.fs s.fs.length=dZ x.2 by unfold qB;rw[bn,hx];rfl] at B
  obtain⟨h1c,h1a,h1r⟩:=H1 x hx
  exact⟨_,dZ x.2,T,F,Iq,h1c,h1a,h1r,by unfold bD;rw[show(s.keep x.1 (cq x.2 p.flags false s.now)).fs=fG s.fs x.1 (cq x.2 p.flags false s.now) from rfl,qdI,Ss,show(fG s.fs x.1 (cq x.2 p.flags false s.now)).length=s.fs.length by unfold fG;rw[List.length_map]];exact B⟩)
 have HNo:aK (∀C g W,JF G w C a b p k s T F Iq 0 g W->s.fs.find? (fun y=>cX p a y.2)=none->pP C a g/\g 11=.string ak/\Dz G w W (zw C b p k fW (bD b s T F Iq))):=ar (fun C g W h hx=>by
  obtain⟨j,hk,hj,hS,hV,B⟩:=h
  obtain rfl:j=s.fs.length:=by omega
  simp only[aO,and_true] at hV
  rw[Sp hx,show qB (cX p a) s.fs s.fs.length=fW by unfold qB;rw[bn,hx];rfl] at B
  exact⟨hS,hV.1,B⟩)
 have HSl:aK (∀C g W,JF G w C a b p k s T F Iq 0 g W->pP C a g/\g 11=.string ak/\g 12=.bool (s.fs.find? fun y=>cX p a y.2).isSome):=ar (fun C g W h=>by
  obtain⟨j,hk,hj,hS,hV,B⟩:=h
  obtain rfl:j=s.fs.length:=by omega
  simp only[aO,and_true] at hV
  rw[bn,yC (fs:=s.fs) (cX p a)] at hV
  exact⟨hS,hV.1,hV.2.1⟩)
 (have CP:=fun w=>vA k.fr w hs);have hrg:=(Hq hb).1;(have hw:bK (p.src-167772161)=a:=by rw[ha];rw[hp] at hrg;unfold bK;omega)
 rw[show iw k.fr.data.toList=p from(aZ hb).trans hp,hb] at CP
 (have V0:=ar (fun C Q=>qeL (Q:=Q) (G:=G) (w:=w) (C:=C) (a:=a) (b:=b) (p:=p) (k:=k) (s:=s) (T:=T) (F:=F) (Iq:=Iq) hn uk hap));(have qeO:aK (s.fs.find? (fun y=>cX p a y.2)=none->∀(C:EC) (K:Act->af->Prop),(∀g W,XT G w C a b p k r g W->K (cJ 223 g) W)->∀f W,pP C a f->f 11=.string ak->Dz G w W (zw C b p k fW (bD b s T F Iq))->(otN f23).wp ah (Exit.then K (PO G w b r)) (cJ 223 f) W):=ar (fun hf C K hK=>qeI hs hl4 k7 uk CO (H2 hf) (H3 hf) (ar (fun hb yG=>qeG hs hl4 hn hbg (Nat.lt_of_le_of_lt uk (by decide)) jr hwd (H4 hf hb yG) (H5 hf hb yG) hK))));(have HT:=ar (fun C=>qeF (G:=G) (w:=w) (C:=C) (a:=a) (b:=b) (p:=p) (k:=k) (r:=r) hs))
 have hq:(p.ae==1)=false\/(p.ae==1)=true/\(p.flags==0)=false:=by
  by_cases h5:p.ae=1
  .exact .inr ⟨by simp[h5],by simp;exact fun h=>h3 ⟨h5,h⟩⟩
  .exact .inl (by simp[h5])
 clear hp hb hrg ha H1 H2 H3 H4 H5 CO hwd k7 hn hap hu hl4 hbg jr hs uk h3
 unfold bD at B
 obtain⟨fa,fn,oG⟩:=F
 obtain⟨rfl,-⟩:fn=s.fs.length/\(0<s.fs.length->∃g,fa=some ⟨g,0,none⟩):=n4 (B.at 1 rfl)
 rcases hq with q1|⟨q1,q2⟩
 all_goals
  go_enter func23,ntmps23
  go_wp2_with (first|(refine se (t:=25) ?_;refine sf B ?_;clear B;intro c2 W B)|(refine se (t:=32) ?_;refine sf B ?_;clear B;intro c3 W B)|(refine iz (t:=29) ?_;refine iN ?_;clear B;intro c4 W B)|((with_reducible refine iz (t:=63) ?_);refine dAl B ?_ (hz:=Su);clear B;intro c5 W B)|((with_reducible refine fe (t:=63) ?_);refine ld B 0 #[.func (.func 47) #[] #[]] ?_;clear B;intro W B)|(refine iz (t:=77) ?_;refine iN ?_;clear B;intro c7 W B)|(refine iz (t:=72) ?_;refine iN ?_;clear B;intro c10 W B)|(go_at_call 50;go_fit (CP _);refine kg ?_;clear B;intro W B)|(refine eG ?_;first|refine gJ ?_|refine iF ?_|refine eP ?_)|(refine fe ?_;refine dD B 0 ?_;clear B;intro W B))
  rename_i K hK
  refine lG (n:=223) (JF G w ⟨c2,c3,c4,c5,c7,c10⟩ a b p k s T ⟨fa,s.fs.length,oG⟩ Iq) s.fs.length (fun f hJ=>lF _ hJ (V0.out _ _ ?_)) ⟨0,rfl,Nat.zero_le _,by unfold pP;kernel_rfl,by kernel_rfl,by rw[Si];exact B⟩
  clear B;intro g W hJ
  show K (cJ 223 g) W
  refine hK _ _ ?_;clear hK;obtain⟨hS,g11,g12⟩:=HSl.out _ g W hJ
  unfold pP at hS
  simp only[aO,and_true] at hS
  obtain⟨f2,f3,f4,f5,f6,f7,f9,f10⟩:=hS
  simp only[cJ,aA,aF,aB,aI,f2,f3,f4,f5,f6,f7,f9,f10,g11,g12]
  clear f2 f3 f4 f5 f6 f7 f9 f10 g11 g12
  go_upto_if 125 with fail
  rename_i K2 hK2
  (have HK2:aK (∀g W,XT G w ⟨c2,c3,c4,c5,c7,c10⟩ a b p k r g W->K2 (cJ 223 g) W):=ar (fun g W hX=>hK2 _ _ (HT.out _ g W hX)));clear hK2
  cases hf:s.fs.find? (fun y=>cX p a y.2) with
  | some x=>
   obtain⟨s',m,T',F',jG,hI,ha,hr,B⟩:=HF.out _ g W hJ x hf
   go_wp2
   exact exK HK2.out ⟨_,s',m,T',F',jG,by unfold pP;kernel_rfl,by kernel_rfl,hI,ha,hr,B⟩
  | none=>
   obtain⟨hS,g11,B⟩:=HNo.out _ g W hJ hf;refine wp_cond_true rfl ?_
   exact onF (n:=223) (fun f W=>pP ⟨c2,c3,c4,c5,c7,c10⟩ a f/\f 11=.string ak/\Dz G w W (zw ⟨c2,c3,c4,c5,c7,c10⟩ b p k fW (bD b s T ⟨fa,s.fs.length,oG⟩ Iq))) (fun f W h=>qeO.out hf _ K2 HK2.out f W h.1 h.2.1 h.2.2) ⟨by unfold pP;kernel_rfl,by kernel_rfl,B⟩
end
end Go.Proofs.YtnkpgdejagglaaaGreatDoor
