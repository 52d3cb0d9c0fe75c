
/- What the claims' closed facts ask of the program's own first word, read once as a list of characters (the kernel reads a long text too slowly). Conditions: none. -/
import Derived.Test.YtmkieoinmfkofaaRows
namespace Go.Proofs.Ytmkieoinmfkofaa
open Go
set_option maxRecDepth 100000 in
theorem chars0_ : Try.pinned.checked.prog.initOrder.toByteArray = List.utf8Encode ['h', 'a', 'r', 'n', 'e', 's', 's', ' ', '4', '2', 'e', '3', 'c', 'b', '2', '0', 'd', '2', '9', '2', '1', '9', 'a', 'b', 'e', '0', '4', '8', '5', '0', 'e', '9', '8', '9', 'c', '3', 'c', '6', '3', '3', 'd', 'd', '4', '8', '3', 'b', 'e', '6', 'c', 'b', '0', 'a', 'b', '4', 'b', 'b', '8', '4', 'f', '0', '0', '1', '3', 'c', '1', '7', 'e', 'f', '2', '0', '6', '7', ' ', 'c', 'u', 't', ' ', 'a', 't', ' ', 'c', 'o', 'u', 'n', 't', 'e', 'r', 'f', 'o', 'i', 'l', '/', 'c', 'o', 'u', 'n', 't', 'e', 'r', 'f', 'o', 'i', 'l', 'l', 'a', 'w', '4', '3', '.', 'M', 'e', 't', 'e', 'r', 'H', 'i', 's', 't', 's'] := by kernel_rfl
set_option maxRecDepth 100000 in
theorem chars_ : Try.pinned.checked.prog.initOrder.toList = ['h', 'a', 'r', 'n', 'e', 's', 's', ' ', '4', '2', 'e', '3', 'c', 'b', '2', '0', 'd', '2', '9', '2', '1', '9', 'a', 'b', 'e', '0', '4', '8', '5', '0', 'e', '9', '8', '9', 'c', '3', 'c', '6', '3', '3', 'd', 'd', '4', '8', '3', 'b', 'e', '6', 'c', 'b', '0', 'a', 'b', '4', 'b', 'b', '8', '4', 'f', '0', '0', '1', '3', 'c', '1', '7', 'e', 'f', '2', '0', '6', '7', ' ', 'c', 'u', 't', ' ', 'a', 't', ' ', 'c', 'o', 'u', 'n', 't', 'e', 'r', 'f', 'o', 'i', 'l', '/', 'c', 'o', 'u', 'n', 't', 'e', 'r', 'f', 'o', 'i', 'l', 'l', 'a', 'w', '4', '3', '.', 'M', 'e', 't', 'e', 'r', 'H', 'i', 's', 't', 's'] := by
  rw [String.toByteArray_inj.1 (chars0_.trans String.toByteArray_ofList.symm), String.toList_ofList]
def rest_ : List (List Char) := (behindMainWord (wordsSigns ['h', 'a', 'r', 'n', 'e', 's', 's', ' ', '4', '2', 'e', '3', 'c', 'b', '2', '0', 'd', '2', '9', '2', '1', '9', 'a', 'b', 'e', '0', '4', '8', '5', '0', 'e', '9', '8', '9', 'c', '3', 'c', '6', '3', '3', 'd', 'd', '4', '8', '3', 'b', 'e', '6', 'c', 'b', '0', 'a', 'b', '4', 'b', 'b', '8', '4', 'f', '0', '0', '1', '3', 'c', '1', '7', 'e', 'f', '2', '0', '6', '7', ' ', 'c', 'u', 't', ' ', 'a', 't', ' ', 'c', 'o', 'u', 'n', 't', 'e', 'r', 'f', 'o', 'i', 'l', '/', 'c', 'o', 'u', 'n', 't', 'e', 'r', 'f', 'o', 'i', 'l', 'l', 'a', 'w', '4', '3', '.', 'M', 'e', 't', 'e', 'r', 'H', 'i', 's', 't', 's'])).tail
set_option maxRecDepth 100000 in
theorem words_ : behindMainWord (wordsSigns Try.pinned.checked.prog.initOrder.toList) = ['c', 'u', 't'] :: rest_ := by rw [chars_]; kernel_rfl
set_option maxRecDepth 100000 in
theorem strip_ (r : List (List Char)) : stripLifts liftWords (['c', 'u', 't'] :: r) = ([], ['c', 'u', 't'] :: r) := by kernel_rfl
set_option maxRecDepth 100000 in
theorem later_ : Try.pinned.checked.prog.laysLater = false := by kernel_rfl
set_option maxRecDepth 100000 in
theorem bears_ : Try.pinned.checked.prog.bearsReflect = false := by kernel_rfl
set_option maxRecDepth 100000 in
theorem door_ : Try.pinned.checked.prog.doorFits [] = true := by kernel_rfl
theorem enter_of (P : Program) (r : List (List Char)) (h : behindMainWord (wordsSigns P.initOrder.toList) = ['c', 'u', 't'] :: r) (l : P.laysLater = false) (b : P.bearsReflect = false) (d : P.doorFits [] = true) : P.mayEnter = true := by
  unfold Program.mayEnter
  rw [h]
  simp only [strip_, l, b, d]
  kernel_rfl
theorem lifts_of (P : Program) (r : List (List Char)) (h : behindMainWord (wordsSigns P.initOrder.toList) = ['c', 'u', 't'] :: r) : P.liftsFinal = false := by
  unfold Program.liftsFinal Program.headLifts
  rw [h, strip_]
  kernel_rfl
theorem make_of (P : Program) (r : List (List Char)) (h : behindMainWord (wordsSigns P.initOrder.toList) = ['c', 'u', 't'] :: r) : P.make = some .cut := by
  unfold Program.make
  rw [h]
  kernel_rfl
theorem enter_ : Try.pinned.checked.prog.mayEnter = true := enter_of _ _ words_ later_ bears_ door_
theorem lifts_ : Try.pinned.checked.prog.liftsFinal = false := lifts_of _ _ words_
theorem make_ : Try.pinned.checked.prog.make = some .cut := make_of _ _ words_
end Go.Proofs.Ytmkieoinmfkofaa
