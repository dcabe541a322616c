/-
  Of what a law stands on.
-/
import Derived.Laws.Strings
import Derived.Test.YtnicenfgemkdnaaGreatDoorZuo1
set_option linter.unusedSimpArgs false
set_option linter.unusedVariables false
namespace Go.Proofs.YtnicenfgemkdnaaGreatDoor
open _root_.Go.Proofs.Tryz
set_option maxHeartbeats 16000000
set_option maxRecDepth 100000
open Go.ChangeShapes Go.WideShapes Go.ChangeAt Go.RowKit Go.Maps
theorem qtq (k:Pkt) (h:good k=0):k.body.size≤64:=(qde k h).2.2.1
theorem qnk (k:Pkt) (h:good k=0):28≤(frame k).length∧(frame k).length≤400000:=by
 have h1:=qlm k (chkH k) (chkP k) (qde k h).1
 have h2:=qge _ (qde k h).1
 have h3:=qtq k h
 have h4:=qpl k h3
 have h5:((frame k).length:Int)=flen k:=h1
 refine ⟨?_,by omega⟩
 unfold flen at h5;omega
end Go.Proofs.YtnicenfgemkdnaaGreatDoor
