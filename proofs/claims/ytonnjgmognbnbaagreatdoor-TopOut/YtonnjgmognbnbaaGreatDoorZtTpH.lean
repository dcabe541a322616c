/-
  Of what a law stands on.
-/
import Derived.Laws.Strings
import Derived.Test.YtonnjgmognbnbaaGreatDoorZtTpA
import Derived.Test.YtonnjgmognbnbaaGreatDoorZtTpO
set_option linter.unusedSimpArgs false
set_option linter.unusedVariables false
namespace Go.Proofs.YtonnjgmognbnbaaGreatDoor
open _root_.Go.Proofs.Tryz Go.ChangeShapes Go.WideShapes Go.ChangeAt Go.RowKit Go.Maps
set_option maxHeartbeats 16000000
set_option maxRecDepth 100000
variable {s:ByteArray}
theorem qtq(k:Pkt)(h:good k=0):k.body.size<=64:=(qde k h).2.2.1
theorem qnk(k:Pkt)(h:good k=0):28<=(frame k).length/\(frame k).length<=400000:=by
 have h1:=qlm k (chkH k) (chkP k) (qde k h).1;have h2:=qge _ (qde k h).1;have h3:=qtq k h;have h4:=qpl k h3;have h5:((frame k).length:Int)=flen k:=h1
 refine⟨?_,by omega⟩
 unfold flen at h5;omega
theorem qhx(r:Rp):r.cells[2]?=some (.bool r.inn):=rfl
theorem ql2(h : 0 < s.size): s.toList.isEmpty = false := by
  rw[ByteArray.toList_eq]
  cases hl : s.data.toList with
  | nil => have : s.data.toList.length = 0 := by rw[hl];rfl
           rw[qb6] at this;omega
  | cons _ _ => rfl
theorem qs7(h:0<s.size):s≠ByteArray.empty:=fun e=>by rw[e] at h;simp at h
theorem q6w(k:Pkt)(a q:Int):turned k 0 a q={ k with ttl:=k.ttl-1,src:=a,sport:=q }:=if_pos rfl
theorem qo7(k:Pkt)(w:World):(Op.equalIn 10000 61 (.agg (pcl k)) (.agg (pcl k))).run prog w=.ok true w:=by
 rw[show(10000:Nat)=9999+1 from rfl,run_equalIn_struct w 9999 61 _ _ kr kr]
 unfold pcl
 simp[go_sem,underlying61]
end Go.Proofs.YtonnjgmognbnbaaGreatDoor
