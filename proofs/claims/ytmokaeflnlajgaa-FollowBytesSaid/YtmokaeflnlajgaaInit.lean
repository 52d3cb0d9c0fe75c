
/- What the claims' closed facts ask of the program's own first word, read once as a list of characters (the kernel reads a long text too slowly). Conditions: none. -/
import Derived.Test.YtmokaeflnlajgaaRows
namespace Go.Proofs.Ytmokaeflnlajgaa
open Go
set_option maxRecDepth 100000 in
theorem chars0_ : Try.pinned.checked.prog.initOrder.toByteArray = List.utf8Encode ['h', 'a', 'r', 'n', 'e', 's', 's', ' ', 'd', '9', '9', '7', '2', '0', 'b', 'a', '4', '5', '5', '4', 'b', '7', 'b', '5', 'b', '0', '9', 'c', '0', '4', '6', 'c', '7', '0', 'a', '7', '9', 'b', 'f', 'e', '7', '0', '1', '2', '1', 'c', '4', '6', 'f', '8', '3', '7', '9', '5', '0', '8', '0', '7', 'f', 'b', 'a', 'd', '2', 'f', 'a', 'c', '9', '1', 'e', '2', 'c', '8', ' ', 'c', 'u', 't', ' ', 'a', 't', ' ', 'c', 'o', 'u', 'n', 't', 'e', 'r', 'f', 'o', 'i', 'l', '/', 'c', 'o', 'u', 'n', 't', 'e', 'r', 'f', 'o', 'i', 'l', 'l', 'a', 'w', '2', '7', '.', 'F', 'o', 'l', 'l', 'o', 'w', 'B', 'y', 't', 'e', 's'] := by kernel_rfl
set_option maxRecDepth 100000 in
theorem chars_ : Try.pinned.checked.prog.initOrder.toList = ['h', 'a', 'r', 'n', 'e', 's', 's', ' ', 'd', '9', '9', '7', '2', '0', 'b', 'a', '4', '5', '5', '4', 'b', '7', 'b', '5', 'b', '0', '9', 'c', '0', '4', '6', 'c', '7', '0', 'a', '7', '9', 'b', 'f', 'e', '7', '0', '1', '2', '1', 'c', '4', '6', 'f', '8', '3', '7', '9', '5', '0', '8', '0', '7', 'f', 'b', 'a', 'd', '2', 'f', 'a', 'c', '9', '1', 'e', '2', 'c', '8', ' ', 'c', 'u', 't', ' ', 'a', 't', ' ', 'c', 'o', 'u', 'n', 't', 'e', 'r', 'f', 'o', 'i', 'l', '/', 'c', 'o', 'u', 'n', 't', 'e', 'r', 'f', 'o', 'i', 'l', 'l', 'a', 'w', '2', '7', '.', 'F', 'o', 'l', 'l', 'o', 'w', 'B', 'y', 't', 'e', 's'] := by
  rw [String.toByteArray_inj.1 (chars0_.trans String.toByteArray_ofList.symm), String.toList_ofList]
def rest_ : List (List Char) := (behindMainWord (wordsSigns ['h', 'a', 'r', 'n', 'e', 's', 's', ' ', 'd', '9', '9', '7', '2', '0', 'b', 'a', '4', '5', '5', '4', 'b', '7', 'b', '5', 'b', '0', '9', 'c', '0', '4', '6', 'c', '7', '0', 'a', '7', '9', 'b', 'f', 'e', '7', '0', '1', '2', '1', 'c', '4', '6', 'f', '8', '3', '7', '9', '5', '0', '8', '0', '7', 'f', 'b', 'a', 'd', '2', 'f', 'a', 'c', '9', '1', 'e', '2', 'c', '8', ' ', 'c', 'u', 't', ' ', 'a', 't', ' ', 'c', 'o', 'u', 'n', 't', 'e', 'r', 'f', 'o', 'i', 'l', '/', 'c', 'o', 'u', 'n', 't', 'e', 'r', 'f', 'o', 'i', 'l', 'l', 'a', 'w', '2', '7', '.', 'F', 'o', 'l', 'l', 'o', 'w', 'B', 'y', 't', 'e', 's'])).tail
set_option maxRecDepth 100000 in
theorem words_ : behindMainWord (wordsSigns Try.pinned.checked.prog.initOrder.toList) = ['c', 'u', 't'] :: rest_ := by rw [chars_]; kernel_rfl
set_option maxRecDepth 100000 in
theorem strip_ (r : List (List Char)) : stripLifts liftWords (['c', 'u', 't'] :: r) = ([], ['c', 'u', 't'] :: r) := by kernel_rfl
set_option maxRecDepth 100000 in
theorem later_ : Try.pinned.checked.prog.laysLater = false := by kernel_rfl
set_option maxRecDepth 100000 in
theorem bears_ : Try.pinned.checked.prog.bearsReflect = false := by kernel_rfl
set_option maxRecDepth 100000 in
theorem door_ : Try.pinned.checked.prog.doorFits [] = true := by kernel_rfl
theorem enter_of (P : Program) (r : List (List Char)) (h : behindMainWord (wordsSigns P.initOrder.toList) = ['c', 'u', 't'] :: r) (l : P.laysLater = false) (b : P.bearsReflect = false) (d : P.doorFits [] = true) : P.mayEnter = true := by
  unfold Program.mayEnter
  rw [h]
  simp only [strip_, l, b, d]
  kernel_rfl
theorem lifts_of (P : Program) (r : List (List Char)) (h : behindMainWord (wordsSigns P.initOrder.toList) = ['c', 'u', 't'] :: r) : P.liftsFinal = false := by
  unfold Program.liftsFinal Program.headLifts
  rw [h, strip_]
  kernel_rfl
theorem make_of (P : Program) (r : List (List Char)) (h : behindMainWord (wordsSigns P.initOrder.toList) = ['c', 'u', 't'] :: r) : P.make = some .cut := by
  unfold Program.make
  rw [h]
  kernel_rfl
theorem enter_ : Try.pinned.checked.prog.mayEnter = true := enter_of _ _ words_ later_ bears_ door_
theorem lifts_ : Try.pinned.checked.prog.liftsFinal = false := lifts_of _ _ words_
theorem make_ : Try.pinned.checked.prog.make = some .cut := make_of _ _ words_
end Go.Proofs.Ytmokaeflnlajgaa
