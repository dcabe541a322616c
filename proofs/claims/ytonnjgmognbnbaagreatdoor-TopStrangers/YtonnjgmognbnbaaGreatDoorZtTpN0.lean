/-
  Of what a law stands on.
-/
import Derived.Test.YtonnjgmognbnbaaGreatDoorZtTpW
import Derived.Test.YtonnjgmognbnbaaGreatDoorZtTpG
import Derived.Test.YtonnjgmognbnbaaGreatDoorZtTpH
set_option linter.unusedSimpArgs false
set_option linter.unusedVariables false
namespace Go.Proofs.YtonnjgmognbnbaaGreatDoor
open Go.Value renaming int → I,pointer → V
open Go.IntKind renaming i64 → Z
open _root_.Go.Proofs.Tryz Go.ChangeShapes Go.WideShapes Go.ChangeAt Go.RowKit Go.Maps
set_option maxHeartbeats 16000000
set_option maxRecDepth 100000
variable {ops:Array Oper}{rest:List Oper}{o:Oper}{w:World}{Q:Exit->Act->World->Prop}
theorem sZtTpN01{p:Prop}(h:p:=by
 clear h3 h4
 go_enter func39,ntmps39
 go_wp2
 go_ret
 first|exact⟨congrArg (fun z=>Ending.returned (I Z z)) H.out,rfl⟩|exact⟨congrArg (fun z=>Ending.returned (I Z z)) (e9 _ H.out),rfl⟩):p:=h
theorem qa6b(k n:Int)(w:World)(hn:0<n)(hm:n<=4611686018427387904):
  Calls prog 39 #[I Z k,I Z n] w fun e w'=>e=.returned (I Z (k%n))/\w'=w:=by
 refine m7k ?_;intro h1 h2 h3 h4 e9 hz hw
 by_cases hneg:k.tmod n<0
 ·have H:Hid (k.tmod n+n=k%n):=h3 hneg
  exact sZtTpN01
 ·have H:Hid (k.tmod n=k%n):=h4 om
  exact sZtTpN01
theorem qbtb(a port from_ fport:Int)(w:World):(Instr.build 61 #[(0,I Z 17),(1,I Z from_),(2,I Z fport),(3,I Z (3405803777+a)),(4,I Z port),(5,I Z 9)]).run prog w=.ok (.agg (pcl (pS a port from_ fport))) w:=by kernel_rfl
theorem qbnb{ac:Act}(hgd:o.guard=none)(x1 x2 x3 x4:Operand)(ho:o.op=.build 61 #[(0,.const (I Z 17)),(1,x1),(2,x2),(3,x3),(4,x4),(5,.const (I Z 9))])(a port from_ fport:Int)(h1:ac.eval x1=I Z from_)(h2:ac.eval x2=I Z fport)(h3:ac.eval x3=I Z (3405803777+a))(h4:ac.eval x4=I Z port)(hr:wpList prog ops Q rest (ac.put o.dst (.agg (pcl (pS a port from_ fport)))) w):wpList prog ops Q (o::rest) ac w:=
 wpList_plain hgd fun K hK=>by
  have e1:ac.eval (.const (I Z 17))=I Z 17:=rfl;have e2:ac.eval (.const (I Z 9))=I Z 9:=rfl
  unfold Oper.wp execOp
  simp only[ho,List.map_toArray,List.map_nil,List.map_cons,e1,e2,h1,h2,h3,h4,Sem.run_bind,qbtb,Result.andThen_ok,Sem.run_pure]
  exact hK _ _ hr
theorem qbqb(f:ByteArray)(w:World):(Instr.build 23 #[(0,I Z 2),(3,.string f)]).run prog w=.ok (.agg (ac ⟨2,0,0,f⟩)) w:=by kernel_rfl
theorem qbhb{a:Act}(hgd:o.guard=none)(x:Operand)(ho:o.op=.build 23 #[(0,.const (I Z 2)),(3,x)])(f:ByteArray)(hx:a.eval x=.string f)(hr:wpList prog ops Q rest (a.put o.dst (.agg (ac ⟨2,0,0,f⟩))) w):wpList prog ops Q (o::rest) a w:=
 wpList_plain hgd fun K hK=>by
  have hz:a.eval (.const (I Z 2))=I Z 2:=rfl
  unfold Oper.wp execOp
  simp only[ho,List.map_toArray,List.map_nil,List.map_cons,hx,hz,Sem.run_bind,qbqb,Result.andThen_ok,Sem.run_pure]
  exact hK _ _ hr
theorem Nb.tail{w0 W:World}{b:Nat}{s:Nt}{tm:Int->Option Int}{F0 F:Nat->Prop}{y:Nat×Obj}{L:List (Nat×Obj)}(h:Nb w0 W b s tm F0 F (y::L)):Nb w0 W b s tm F0 F L:=
 ⟨h.nat,h.gr,h.sub,h.bd,(List.nodup_cons.1 h.nodup).2,fun z hz=>h.rows z (List.mem_cons_of_mem _ hz)⟩
theorem qa5b{ks:List Fl}{P:Fl->Bool}{j:Nat}(hj:j<ks.length){k:Fl}(hk:ks[j]=k):(ks.take (j+1)).any P=((ks.take j).any P||P k):=by
 rw[List.take_succ_eq_append_getElem hj,List.any_append,hk];simp
theorem qa9b(k l:Fl):(fc k).size=(fc l).size:=rfl
theorem qbab(k:Fl):(fc k)[0]?=some (I Z k.pr):=rfl
theorem qa8b(k:Fl):(fc k)[3]?=some (I Z k.a):=rfl
theorem qbbb(k:Fl):(fc k)[4]?=some (I Z k.port):=rfl
theorem qa7b(k:Fl):(fc k)[5]?=some (I Z k.rem):=rfl
theorem any_map(s:Nt)(P:Fl->Bool):(s.fs.map (·.2)).any P=s.fs.any fun x=>P x.2:=by rw[List.any_map];rfl
end Go.Proofs.YtonnjgmognbnbaaGreatDoor
