
/- What the claims' closed facts ask of the program's own first word, read once as a list of characters (the kernel reads a long text too slowly). Conditions: none. -/
import Derived.Test.YtmekadkmmddocaaDoorRows
namespace Go.Proofs.YtmekadkmmddocaaDoor
open Go
set_option maxRecDepth 100000 in
theorem chars0_ : Tryd.pinned.checked.prog.initOrder.toByteArray = List.utf8Encode ['h', 'a', 'r', 'n', 'e', 's', 's', ' ', '8', 'f', '1', '9', 'c', '9', '8', '5', 'a', '2', '3', '0', 'a', 'b', 'a', 'b', '0', '9', 'a', 'e', '9', '9', '3', '2', '6', 'a', 'e', '0', '3', '9', '3', 'e', 'f', 'c', 'c', '1', 'e', 'b', '2', 'c', '7', '0', 'b', '2', '1', 'a', 'f', 'a', '7', 'b', '7', '6', 'd', '1', '7', '0', '5', 'f', '5', '6', '9', '5', '8', 'c', ' ', 'c', 'u', 't', ' ', 'a', 't', ' ', 'c', 'o', 'u', 'n', 't', 'e', 'r', 'f', 'o', 'i', 'l', '/', 'c', 'o', 'u', 'n', 't', 'e', 'r', 'f', 'o', 'i', 'l', 'l', 'a', 'w', '2', '8', '.', 'P', 'a', 'c', 'k', 'e', 't', 'R', 'e', 'a', 'd', 's', ' ', 'c', 'o', 'u', 'n', 't', 'e', 'r', 'f', 'o', 'i', 'l', '/', 'c', 'o', 'u', 'n', 't', 'e', 'r', 'f', 'o', 'i', 'l', 'l', 'a', 'w', '2', '8', '.', 'P', 'a', 'c', 'k', 'e', 't', 'N', 'a', 'm', 'e', 's', ' ', 'c', 'o', 'u', 'n', 't', 'e', 'r', 'f', 'o', 'i', 'l', '/', 'c', 'o', 'u', 'n', 't', 'e', 'r', 'f', 'o', 'i', 'l', 'l', 'a', 'w', '2', '8', '.', 'P', 'a', 'c', 'k', 'e', 't', 'C', 'a', 'r', 'r', 'i', 'e', 's'] := by kernel_rfl
set_option maxRecDepth 100000 in
theorem chars_ : Tryd.pinned.checked.prog.initOrder.toList = ['h', 'a', 'r', 'n', 'e', 's', 's', ' ', '8', 'f', '1', '9', 'c', '9', '8', '5', 'a', '2', '3', '0', 'a', 'b', 'a', 'b', '0', '9', 'a', 'e', '9', '9', '3', '2', '6', 'a', 'e', '0', '3', '9', '3', 'e', 'f', 'c', 'c', '1', 'e', 'b', '2', 'c', '7', '0', 'b', '2', '1', 'a', 'f', 'a', '7', 'b', '7', '6', 'd', '1', '7', '0', '5', 'f', '5', '6', '9', '5', '8', 'c', ' ', 'c', 'u', 't', ' ', 'a', 't', ' ', 'c', 'o', 'u', 'n', 't', 'e', 'r', 'f', 'o', 'i', 'l', '/', 'c', 'o', 'u', 'n', 't', 'e', 'r', 'f', 'o', 'i', 'l', 'l', 'a', 'w', '2', '8', '.', 'P', 'a', 'c', 'k', 'e', 't', 'R', 'e', 'a', 'd', 's', ' ', 'c', 'o', 'u', 'n', 't', 'e', 'r', 'f', 'o', 'i', 'l', '/', 'c', 'o', 'u', 'n', 't', 'e', 'r', 'f', 'o', 'i', 'l', 'l', 'a', 'w', '2', '8', '.', 'P', 'a', 'c', 'k', 'e', 't', 'N', 'a', 'm', 'e', 's', ' ', 'c', 'o', 'u', 'n', 't', 'e', 'r', 'f', 'o', 'i', 'l', '/', 'c', 'o', 'u', 'n', 't', 'e', 'r', 'f', 'o', 'i', 'l', 'l', 'a', 'w', '2', '8', '.', 'P', 'a', 'c', 'k', 'e', 't', 'C', 'a', 'r', 'r', 'i', 'e', 's'] := by
  rw [String.toByteArray_inj.1 (chars0_.trans String.toByteArray_ofList.symm), String.toList_ofList]
def rest_ : List (List Char) := (behindMainWord (wordsSigns ['h', 'a', 'r', 'n', 'e', 's', 's', ' ', '8', 'f', '1', '9', 'c', '9', '8', '5', 'a', '2', '3', '0', 'a', 'b', 'a', 'b', '0', '9', 'a', 'e', '9', '9', '3', '2', '6', 'a', 'e', '0', '3', '9', '3', 'e', 'f', 'c', 'c', '1', 'e', 'b', '2', 'c', '7', '0', 'b', '2', '1', 'a', 'f', 'a', '7', 'b', '7', '6', 'd', '1', '7', '0', '5', 'f', '5', '6', '9', '5', '8', 'c', ' ', 'c', 'u', 't', ' ', 'a', 't', ' ', 'c', 'o', 'u', 'n', 't', 'e', 'r', 'f', 'o', 'i', 'l', '/', 'c', 'o', 'u', 'n', 't', 'e', 'r', 'f', 'o', 'i', 'l', 'l', 'a', 'w', '2', '8', '.', 'P', 'a', 'c', 'k', 'e', 't', 'R', 'e', 'a', 'd', 's', ' ', 'c', 'o', 'u', 'n', 't', 'e', 'r', 'f', 'o', 'i', 'l', '/', 'c', 'o', 'u', 'n', 't', 'e', 'r', 'f', 'o', 'i', 'l', 'l', 'a', 'w', '2', '8', '.', 'P', 'a', 'c', 'k', 'e', 't', 'N', 'a', 'm', 'e', 's', ' ', 'c', 'o', 'u', 'n', 't', 'e', 'r', 'f', 'o', 'i', 'l', '/', 'c', 'o', 'u', 'n', 't', 'e', 'r', 'f', 'o', 'i', 'l', 'l', 'a', 'w', '2', '8', '.', 'P', 'a', 'c', 'k', 'e', 't', 'C', 'a', 'r', 'r', 'i', 'e', 's'])).tail
set_option maxRecDepth 100000 in
theorem words_ : behindMainWord (wordsSigns Tryd.pinned.checked.prog.initOrder.toList) = ['c', 'u', 't'] :: rest_ := by rw [chars_]; kernel_rfl
set_option maxRecDepth 100000 in
theorem strip_ (r : List (List Char)) : stripLifts liftWords (['c', 'u', 't'] :: r) = ([], ['c', 'u', 't'] :: r) := by kernel_rfl
set_option maxRecDepth 100000 in
theorem later_ : Tryd.pinned.checked.prog.laysLater = false := by kernel_rfl
set_option maxRecDepth 100000 in
theorem bears_ : Tryd.pinned.checked.prog.bearsReflect = false := by kernel_rfl
set_option maxRecDepth 100000 in
theorem door_ : Tryd.pinned.checked.prog.doorFits [] = true := by kernel_rfl
theorem enter_of (P : Program) (r : List (List Char)) (h : behindMainWord (wordsSigns P.initOrder.toList) = ['c', 'u', 't'] :: r) (l : P.laysLater = false) (b : P.bearsReflect = false) (d : P.doorFits [] = true) : P.mayEnter = true := by
  unfold Program.mayEnter
  rw [h]
  simp only [strip_, l, b, d]
  kernel_rfl
theorem lifts_of (P : Program) (r : List (List Char)) (h : behindMainWord (wordsSigns P.initOrder.toList) = ['c', 'u', 't'] :: r) : P.liftsFinal = false := by
  unfold Program.liftsFinal Program.headLifts
  rw [h, strip_]
  kernel_rfl
theorem make_of (P : Program) (r : List (List Char)) (h : behindMainWord (wordsSigns P.initOrder.toList) = ['c', 'u', 't'] :: r) : P.make = some .cut := by
  unfold Program.make
  rw [h]
  kernel_rfl
theorem enter_ : Tryd.pinned.checked.prog.mayEnter = true := enter_of _ _ words_ later_ bears_ door_
theorem lifts_ : Tryd.pinned.checked.prog.liftsFinal = false := lifts_of _ _ words_
theorem make_ : Tryd.pinned.checked.prog.make = some .cut := make_of _ _ words_
end Go.Proofs.YtmekadkmmddocaaDoor
