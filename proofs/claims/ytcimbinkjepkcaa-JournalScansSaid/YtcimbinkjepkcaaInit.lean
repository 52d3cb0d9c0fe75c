
/- What the claims' closed facts ask of the program's own first word, read once as a list of characters (the kernel reads a long text too slowly). Conditions: none. -/
import Derived.Test.YtcimbinkjepkcaaRows
namespace Go.Proofs.Ytcimbinkjepkcaa
open Go
set_option maxRecDepth 100000 in
theorem chars0_ : Try.pinned.checked.prog.initOrder.toByteArray = List.utf8Encode ['h', 'a', 'r', 'n', 'e', 's', 's', ' ', '9', '8', '0', '6', '1', '3', 'd', '8', 'f', 'e', 'a', '9', '1', '8', 'f', '8', '4', '1', 'd', '2', 'd', 'e', '5', '7', '9', 'd', '2', '8', 'e', '4', '9', 'a', 'a', 'f', 'f', '9', 'c', '1', 'b', '4', 'a', 'd', 'c', '4', '8', '0', 'f', '7', '3', '1', '0', '9', 'f', 'c', 'c', 'c', '0', 'b', 'd', 'c', '0', '8', '6', '9', ' ', 'c', 'u', 't', ' ', 'a', 't', ' ', 'c', 'o', 'u', 'n', 't', 'e', 'r', 'f', 'o', 'i', 'l', '/', 'c', 'o', 'u', 'n', 't', 'e', 'r', 'f', 'o', 'i', 'l', 'l', 'a', 'w', '2', '5', '.', 'J', 'o', 'u', 'r', 'n', 'a', 'l', 'S', 'c', 'a', 'n', 's'] := by kernel_rfl
set_option maxRecDepth 100000 in
theorem chars_ : Try.pinned.checked.prog.initOrder.toList = ['h', 'a', 'r', 'n', 'e', 's', 's', ' ', '9', '8', '0', '6', '1', '3', 'd', '8', 'f', 'e', 'a', '9', '1', '8', 'f', '8', '4', '1', 'd', '2', 'd', 'e', '5', '7', '9', 'd', '2', '8', 'e', '4', '9', 'a', 'a', 'f', 'f', '9', 'c', '1', 'b', '4', 'a', 'd', 'c', '4', '8', '0', 'f', '7', '3', '1', '0', '9', 'f', 'c', 'c', 'c', '0', 'b', 'd', 'c', '0', '8', '6', '9', ' ', 'c', 'u', 't', ' ', 'a', 't', ' ', 'c', 'o', 'u', 'n', 't', 'e', 'r', 'f', 'o', 'i', 'l', '/', 'c', 'o', 'u', 'n', 't', 'e', 'r', 'f', 'o', 'i', 'l', 'l', 'a', 'w', '2', '5', '.', 'J', 'o', 'u', 'r', 'n', 'a', 'l', 'S', 'c', 'a', 'n', 's'] := by
  rw [String.toByteArray_inj.1 (chars0_.trans String.toByteArray_ofList.symm), String.toList_ofList]
def rest_ : List (List Char) := (behindMainWord (wordsSigns ['h', 'a', 'r', 'n', 'e', 's', 's', ' ', '9', '8', '0', '6', '1', '3', 'd', '8', 'f', 'e', 'a', '9', '1', '8', 'f', '8', '4', '1', 'd', '2', 'd', 'e', '5', '7', '9', 'd', '2', '8', 'e', '4', '9', 'a', 'a', 'f', 'f', '9', 'c', '1', 'b', '4', 'a', 'd', 'c', '4', '8', '0', 'f', '7', '3', '1', '0', '9', 'f', 'c', 'c', 'c', '0', 'b', 'd', 'c', '0', '8', '6', '9', ' ', 'c', 'u', 't', ' ', 'a', 't', ' ', 'c', 'o', 'u', 'n', 't', 'e', 'r', 'f', 'o', 'i', 'l', '/', 'c', 'o', 'u', 'n', 't', 'e', 'r', 'f', 'o', 'i', 'l', 'l', 'a', 'w', '2', '5', '.', 'J', 'o', 'u', 'r', 'n', 'a', 'l', 'S', 'c', 'a', 'n', 's'])).tail
set_option maxRecDepth 100000 in
theorem words_ : behindMainWord (wordsSigns Try.pinned.checked.prog.initOrder.toList) = ['c', 'u', 't'] :: rest_ := by rw [chars_]; kernel_rfl
set_option maxRecDepth 100000 in
theorem strip_ (r : List (List Char)) : stripLifts liftWords (['c', 'u', 't'] :: r) = ([], ['c', 'u', 't'] :: r) := by kernel_rfl
set_option maxRecDepth 100000 in
theorem later_ : Try.pinned.checked.prog.laysLater = false := by kernel_rfl
set_option maxRecDepth 100000 in
theorem bears_ : Try.pinned.checked.prog.bearsReflect = false := by kernel_rfl
set_option maxRecDepth 100000 in
theorem door_ : Try.pinned.checked.prog.doorFits [] = true := by kernel_rfl
theorem enter_of (P : Program) (r : List (List Char)) (h : behindMainWord (wordsSigns P.initOrder.toList) = ['c', 'u', 't'] :: r) (l : P.laysLater = false) (b : P.bearsReflect = false) (d : P.doorFits [] = true) : P.mayEnter = true := by
  unfold Program.mayEnter
  rw [h]
  simp only [strip_, l, b, d]
  kernel_rfl
theorem lifts_of (P : Program) (r : List (List Char)) (h : behindMainWord (wordsSigns P.initOrder.toList) = ['c', 'u', 't'] :: r) : P.liftsFinal = false := by
  unfold Program.liftsFinal Program.headLifts
  rw [h, strip_]
  kernel_rfl
theorem make_of (P : Program) (r : List (List Char)) (h : behindMainWord (wordsSigns P.initOrder.toList) = ['c', 'u', 't'] :: r) : P.make = some .cut := by
  unfold Program.make
  rw [h]
  kernel_rfl
theorem enter_ : Try.pinned.checked.prog.mayEnter = true := enter_of _ _ words_ later_ bears_ door_
theorem lifts_ : Try.pinned.checked.prog.liftsFinal = false := lifts_of _ _ words_
theorem make_ : Try.pinned.checked.prog.make = some .cut := make_of _ _ words_
end Go.Proofs.Ytcimbinkjepkcaa
