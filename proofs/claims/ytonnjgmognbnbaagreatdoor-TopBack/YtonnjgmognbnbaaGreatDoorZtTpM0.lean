/-
  Of what a law stands on.
-/
import Derived.Test.YtonnjgmognbnbaaGreatDoorZtTpC
import Derived.Test.YtonnjgmognbnbaaGreatDoorZtTpH
set_option linter.unusedSimpArgs false
set_option linter.unusedVariables false
namespace Go.Proofs.YtonnjgmognbnbaaGreatDoor
open Go.Value renaming int → I,pointer → V
open Go.IntKind renaming i64 → Z
open _root_.Go.Proofs.Tryz Go.ChangeShapes Go.WideShapes Go.ChangeAt Go.RowKit Go.Maps
set_option maxHeartbeats 16000000
set_option maxRecDepth 100000
variable {ops:Array Oper}{rest:List Oper}{o:Oper}{w:World}{Q:Exit->Act->World->Prop}{a:Act}
theorem sZtTpM01{p:Prop}(h:p:=by
 clear h3 h4
 go_enter func37,ntmps37
 go_wp2
 go_ret
 first|exact⟨congrArg (fun z=>Ending.returned (I Z z)) H.out,rfl⟩|exact⟨congrArg (fun z=>Ending.returned (I Z z)) (e9 _ H.out),rfl⟩):p:=h
theorem qg8b(k n:Int)(w:World)(hn:0<n)(hm:n<=4611686018427387904):
  Calls prog 37 #[I Z k,I Z n] w fun e w'=>e=.returned (I Z (k%n))/\w'=w:=by
 refine m7k ?_;intro h1 h2 h3 h4 e9 hz hw
 by_cases hneg:k.tmod n<0
 ·have H:Hid (k.tmod n+n=k%n):=h3 hneg
  exact sZtTpM01
 ·have H:Hid (k.tmod n=k%n):=h4 om
  exact sZtTpM01
theorem qhib(x xs y ys:Int)(b:ByteArray)(w:World):(Instr.build 61 #[(0,I Z 17),(1,I Z x),(2,I Z xs),(3,I Z y),(4,I Z ys),(5,I Z 9),(11,.string b)]).run prog w=.ok (.agg (pcl (pU x xs y ys b))) w:=by kernel_rfl
theorem qhab{ac:Act}(hgd:o.guard=none)(x1 x2 x3 x4:Operand)(b:ByteArray)(ho:o.op=.build 61 #[(0,.const (I Z 17)),(1,x1),(2,x2),(3,x3),(4,x4),(5,.const (I Z 9)),(11,.const (.string b))])(x xs y ys:Int)(h1:ac.eval x1=I Z x)(h2:ac.eval x2=I Z xs)(h3:ac.eval x3=I Z y)(h4:ac.eval x4=I Z ys)(hr:wpList prog ops Q rest (ac.put o.dst (.agg (pcl (pU x xs y ys b)))) w):wpList prog ops Q (o::rest) ac w:=
 wpList_plain hgd fun K hK=>by
  have e1:ac.eval (.const (I Z 17))=I Z 17:=rfl;have e2:ac.eval (.const (I Z 9))=I Z 9:=rfl;have e3:ac.eval (.const (.string b))=.string b:=rfl
  unfold Oper.wp execOp
  simp only[ho,List.map_toArray,List.map_nil,List.map_cons,e1,e2,e3,h1,h2,h3,h4,Sem.run_bind,qhib,Result.andThen_ok,Sem.run_pure]
  exact hK _ _ hr
theorem qhfb(d:Int)(f:ByteArray)(w:World):(Instr.build 23 #[(0,I Z 1),(3,.string f),(2,I Z d)]).run prog w=.ok (.agg (ac ⟨1,0,d,f⟩)) w:=by kernel_rfl
theorem qhbb(hgd:o.guard=none)(x y:Operand)(ho:o.op=.build 23 #[(0,.const (I Z 1)),(3,x),(2,y)])(f:ByteArray)(hx:a.eval x=.string f)(d:Int)(hy:a.eval y=I Z d)(hr:wpList prog ops Q rest (a.put o.dst (.agg (ac ⟨1,0,d,f⟩))) w):wpList prog ops Q (o::rest) a w:=
 wpList_plain hgd fun K hK=>by
  have hz:a.eval (.const (I Z 1))=I Z 1:=rfl
  unfold Oper.wp execOp
  simp only[ho,List.map_toArray,List.map_nil,List.map_cons,hx,hy,hz,Sem.run_bind,qhfb,Result.andThen_ok,Sem.run_pure]
  exact hK _ _ hr
theorem qhhb(f:ByteArray)(w:World):(Instr.build 23 #[(0,I Z 1),(3,.string f)]).run prog w=.ok (.agg (ac ⟨1,0,0,f⟩)) w:=by kernel_rfl
theorem qhcb(hgd:o.guard=none)(x:Operand)(ho:o.op=.build 23 #[(0,.const (I Z 1)),(3,x)])(f:ByteArray)(hx:a.eval x=.string f)(hr:wpList prog ops Q rest (a.put o.dst (.agg (ac ⟨1,0,0,f⟩))) w):wpList prog ops Q (o::rest) a w:=
 wpList_plain hgd fun K hK=>by
  have hz:a.eval (.const (I Z 1))=I Z 1:=rfl
  unfold Oper.wp execOp
  simp only[ho,List.map_toArray,List.map_nil,List.map_cons,hx,hz,Sem.run_bind,qhhb,Result.andThen_ok,Sem.run_pure]
  exact hK _ _ hr
def qU(x xs y ys:Int)(b:ByteArray):Pkt:=⟨17,x,xs,y,ys,8,0,0,0,0,0,b⟩
theorem qg9b(x xs y ys:Int)(b:ByteArray)(a q:Int):turned (pU x xs y ys b) 0 a q=qU a q y ys b:=if_pos rfl
theorem qheb(x xs y ys:Int)(b:ByteArray)(a q:Int):turned (pU x xs y ys b) 1 a q=qU x xs a q b:=if_neg (by decide)
theorem qhdb{l:List UInt8}{k:Prop}{r:Rp}(h:Sent r\/(k/\Told l r)):r.fr.size<=140737488351232:=by
 rcases h with(h|⟨_,k,hg,h⟩)|⟨_,_,_,_,id,h⟩
 ·rw[h];simp
 ·have:=qnk _ hg
  rw[h,qck];omega
 ·have:(l.take 28).length<=28:=by rw[List.length_take];omega
  rw[h,qck];unfold qff;rw[qk9];omega
theorem Pl.nbB{loose:Bool}{J:List Ac->(Nat->Prop)->World->Prop}{G0 F G:Nat->Prop}{w0 W:World}{b:Nat}{l:List Ac}{L:List (Nat×Obj)}(h:Pl loose J G0 w W b l F G)(hB:Below w0.heap.size w0 w)(hG:∀c,G0 c->w0.heap.size<=c)(hd:(L.map (·.1)).Nodup)(hr:∀y∈L,w.heap[y.1]?=some y.2/\w0.heap.size<=y.1/\¬G0 y.1):
  Nb w0 W b ((nt0 loose).runs l) (duF ((nt0 loose).runs l).fs) (fun _=>False) F L:=by
 refine⟨h.nat,(Gr.of_below (F:=fun _=>False) hB).trans h.gr (fun c hc=>.inr (hG c hc)),fun c hc=>.inr (Nat.le_trans hB.size (h.new c hc)),h.bd,hd,fun y hy=>?_⟩
 obtain⟨h1,h2,h3⟩:=hr y hy;have hl:y.1<w.heap.size:=(Array.getElem?_eq_some_iff.1 h1).1
 exact⟨(h.gr.block _ hl h3).trans h1,h2,fun hf=>by have:=h.new _ hf;omega⟩
theorem qhkb(f:ByteArray)(w:World):(Instr.build 23 #[(0,I Z 2),(3,.string f)]).run prog w=.ok (.agg (ac ⟨2,0,0,f⟩)) w:=by kernel_rfl
theorem qhjb(hgd:o.guard=none)(x:Operand)(ho:o.op=.build 23 #[(0,.const (I Z 2)),(3,x)])(f:ByteArray)(hx:a.eval x=.string f)(hr:wpList prog ops Q rest (a.put o.dst (.agg (ac ⟨2,0,0,f⟩))) w):wpList prog ops Q (o::rest) a w:=
 wpList_plain hgd fun K hK=>by
  have hz:a.eval (.const (I Z 2))=I Z 2:=rfl
  unfold Oper.wp execOp
  simp only[ho,List.map_toArray,List.map_nil,List.map_cons,hx,hz,Sem.run_bind,qhkb,Result.andThen_ok,Sem.run_pure]
  exact hK _ _ hr
end Go.Proofs.YtonnjgmognbnbaaGreatDoor
