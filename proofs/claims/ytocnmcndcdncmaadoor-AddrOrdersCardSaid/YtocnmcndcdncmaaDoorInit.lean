
/- What the claims' closed facts ask of the program's own first word, read once as a list of characters (the kernel reads a long text too slowly). Conditions: none. -/
import Derived.Test.YtocnmcndcdncmaaDoorRows
namespace Go.Proofs.YtocnmcndcdncmaaDoor
open Go
set_option maxRecDepth 100000 in
theorem chars0_ : Tryd.pinned.checked.prog.initOrder.toByteArray = List.utf8Encode ['h', 'a', 'r', 'n', 'e', 's', 's', ' ', '3', 'e', 'f', '5', '0', '8', '5', 'b', '1', '5', '6', '4', '7', '5', 'c', 'e', '3', 'e', '6', 'a', 'b', '8', 'd', '7', 'f', 'a', '0', 'a', '4', 'e', 'c', '7', '1', 'c', '5', '0', '5', '1', '1', '9', '4', '5', '3', '9', '8', '7', '7', 'c', '6', '3', '3', 'd', '0', 'b', '4', '0', '8', '5', 'e', 'b', '8', '0', '5', '0', ' ', 'c', 'u', 't', ' ', 'a', 't', ' ', 'c', 'o', 'u', 'n', 't', 'e', 'r', 'f', 'o', 'i', 'l', '/', 'c', 'o', 'u', 'n', 't', 'e', 'r', 'f', 'o', 'i', 'l', 'l', 'a', 'w', '0', '3', '.', 'A', 'd', 'd', 'r', 'O', 'r', 'd', 'e', 'r', 's', ' ', 'c', 'o', 'u', 'n', 't', 'e', 'r', 'f', 'o', 'i', 'l', '/', 'c', 'o', 'u', 'n', 't', 'e', 'r', 'f', 'o', 'i', 'l', 'l', 'a', 'w', '0', '3', '.', 'A', 'd', 'd', 'r', 'F', 'l', 'o', 'w', 's'] := by kernel_rfl
set_option maxRecDepth 100000 in
theorem chars_ : Tryd.pinned.checked.prog.initOrder.toList = ['h', 'a', 'r', 'n', 'e', 's', 's', ' ', '3', 'e', 'f', '5', '0', '8', '5', 'b', '1', '5', '6', '4', '7', '5', 'c', 'e', '3', 'e', '6', 'a', 'b', '8', 'd', '7', 'f', 'a', '0', 'a', '4', 'e', 'c', '7', '1', 'c', '5', '0', '5', '1', '1', '9', '4', '5', '3', '9', '8', '7', '7', 'c', '6', '3', '3', 'd', '0', 'b', '4', '0', '8', '5', 'e', 'b', '8', '0', '5', '0', ' ', 'c', 'u', 't', ' ', 'a', 't', ' ', 'c', 'o', 'u', 'n', 't', 'e', 'r', 'f', 'o', 'i', 'l', '/', 'c', 'o', 'u', 'n', 't', 'e', 'r', 'f', 'o', 'i', 'l', 'l', 'a', 'w', '0', '3', '.', 'A', 'd', 'd', 'r', 'O', 'r', 'd', 'e', 'r', 's', ' ', 'c', 'o', 'u', 'n', 't', 'e', 'r', 'f', 'o', 'i', 'l', '/', 'c', 'o', 'u', 'n', 't', 'e', 'r', 'f', 'o', 'i', 'l', 'l', 'a', 'w', '0', '3', '.', 'A', 'd', 'd', 'r', 'F', 'l', 'o', 'w', 's'] := by
  rw [String.toByteArray_inj.1 (chars0_.trans String.toByteArray_ofList.symm), String.toList_ofList]
def rest_ : List (List Char) := (behindMainWord (wordsSigns ['h', 'a', 'r', 'n', 'e', 's', 's', ' ', '3', 'e', 'f', '5', '0', '8', '5', 'b', '1', '5', '6', '4', '7', '5', 'c', 'e', '3', 'e', '6', 'a', 'b', '8', 'd', '7', 'f', 'a', '0', 'a', '4', 'e', 'c', '7', '1', 'c', '5', '0', '5', '1', '1', '9', '4', '5', '3', '9', '8', '7', '7', 'c', '6', '3', '3', 'd', '0', 'b', '4', '0', '8', '5', 'e', 'b', '8', '0', '5', '0', ' ', 'c', 'u', 't', ' ', 'a', 't', ' ', 'c', 'o', 'u', 'n', 't', 'e', 'r', 'f', 'o', 'i', 'l', '/', 'c', 'o', 'u', 'n', 't', 'e', 'r', 'f', 'o', 'i', 'l', 'l', 'a', 'w', '0', '3', '.', 'A', 'd', 'd', 'r', 'O', 'r', 'd', 'e', 'r', 's', ' ', 'c', 'o', 'u', 'n', 't', 'e', 'r', 'f', 'o', 'i', 'l', '/', 'c', 'o', 'u', 'n', 't', 'e', 'r', 'f', 'o', 'i', 'l', 'l', 'a', 'w', '0', '3', '.', 'A', 'd', 'd', 'r', 'F', 'l', 'o', 'w', 's'])).tail
set_option maxRecDepth 100000 in
theorem words_ : behindMainWord (wordsSigns Tryd.pinned.checked.prog.initOrder.toList) = ['c', 'u', 't'] :: rest_ := by rw [chars_]; kernel_rfl
set_option maxRecDepth 100000 in
theorem strip_ (r : List (List Char)) : stripLifts liftWords (['c', 'u', 't'] :: r) = ([], ['c', 'u', 't'] :: r) := by kernel_rfl
set_option maxRecDepth 100000 in
theorem later_ : Tryd.pinned.checked.prog.laysLater = false := by kernel_rfl
set_option maxRecDepth 100000 in
theorem bears_ : Tryd.pinned.checked.prog.bearsReflect = false := by kernel_rfl
set_option maxRecDepth 100000 in
theorem door_ : Tryd.pinned.checked.prog.doorFits [] = true := by kernel_rfl
theorem enter_of (P : Program) (r : List (List Char)) (h : behindMainWord (wordsSigns P.initOrder.toList) = ['c', 'u', 't'] :: r) (l : P.laysLater = false) (b : P.bearsReflect = false) (d : P.doorFits [] = true) : P.mayEnter = true := by
  unfold Program.mayEnter
  rw [h]
  simp only [strip_, l, b, d]
  kernel_rfl
theorem lifts_of (P : Program) (r : List (List Char)) (h : behindMainWord (wordsSigns P.initOrder.toList) = ['c', 'u', 't'] :: r) : P.liftsFinal = false := by
  unfold Program.liftsFinal Program.headLifts
  rw [h, strip_]
  kernel_rfl
theorem make_of (P : Program) (r : List (List Char)) (h : behindMainWord (wordsSigns P.initOrder.toList) = ['c', 'u', 't'] :: r) : P.make = some .cut := by
  unfold Program.make
  rw [h]
  kernel_rfl
theorem enter_ : Tryd.pinned.checked.prog.mayEnter = true := enter_of _ _ words_ later_ bears_ door_
theorem lifts_ : Tryd.pinned.checked.prog.liftsFinal = false := lifts_of _ _ words_
theorem make_ : Tryd.pinned.checked.prog.make = some .cut := make_of _ _ words_
end Go.Proofs.YtocnmcndcdncmaaDoor
