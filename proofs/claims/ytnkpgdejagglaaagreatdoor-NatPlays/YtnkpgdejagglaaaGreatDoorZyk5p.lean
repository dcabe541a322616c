/-
  Of what a law stands on.
-/
import Derived.Test.YtnkpgdejagglaaaGreatDoorZyk4p
set_option linter.all false
namespace Go.Proofs.YtnkpgdejagglaaaGreatDoor
open _root_.ByteArray renaming empty->ak
open _root_.Go renaming Calls->az,TypeId->bt,Value->ag,World->af
open _root_.Go.Proofs.Tryz renaming prog->ah
open _root_.List renaming eq_nil_of_length_eq_zero->iI,getElem?_eq_some_iff->aJ,length_take->eD,map_cons->aB,map_nil->aI,mem_map->bQ,range->aA
open Go.Value renaming int → I,pointer → V
open Go.IntKind renaming i64 → Z
open _root_.Go.Proofs.Tryz Go.ChangeShapes Go.WideShapes Go.ChangeAt Go.RowKit
set_option maxHeartbeats 16000000
set_option maxRecDepth 100000
variable {w:World}{base:Nat}{es:List Ac}{Q:Exit->Act->World->Prop}{k:Ac}
section
open Go.Maps
section
variable (w:World) (b':Nat) (loose:Bool) (sl v:Value) (es:List Ac)
end
section
variable {ops:Array Oper} {rest:List Oper} {o:Oper} {a:Act} {w:World} {Q:Exit->Act->World->Prop} {x y:Operand}
end
end
def Xu(loose:Bool)(sl:ag)(es:List Ac)(w:af)(hS:M8 w sl es)(hT:jv w):az ah 3 #[.bool loose,sl] w fun e w'=>e=.returned (.bool true)/\Below w.heap.size w w':=qF loose sl es w hS.1.1 hS.2 hT
end Go.Proofs.YtnkpgdejagglaaaGreatDoor
