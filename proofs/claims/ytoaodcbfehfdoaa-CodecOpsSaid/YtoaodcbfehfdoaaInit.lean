
/- What the claims' closed facts ask of the program's own first word, read once as a list of characters (the kernel reads a long text too slowly). Conditions: none. -/
import Derived.Test.YtoaodcbfehfdoaaRows
namespace Go.Proofs.Ytoaodcbfehfdoaa
open Go
set_option maxRecDepth 100000 in
theorem chars0_ : Try.pinned.checked.prog.initOrder.toByteArray = List.utf8Encode ['h', 'a', 'r', 'n', 'e', 's', 's', ' ', '5', '4', '8', '2', 'e', '7', 'c', '6', '2', 'f', '8', '8', '2', '8', '6', '9', '6', '9', 'a', 'e', '6', '7', '6', 'a', 'c', '2', 'e', 'f', 'a', 'a', '1', '8', 'c', 'b', '6', '4', '3', '1', '6', 'f', '3', '7', '9', '7', 'f', 'f', '7', '5', '8', '9', 'd', 'a', '5', 'e', '5', '7', '5', '1', 'd', '0', '4', 'd', 'c', 'a', ' ', 'c', 'u', 't', ' ', 'a', 't', ' ', 'c', 'o', 'u', 'n', 't', 'e', 'r', 'f', 'o', 'i', 'l', '/', 'c', 'o', 'u', 'n', 't', 'e', 'r', 'f', 'o', 'i', 'l', 'l', 'a', 'w', '2', '3', '.', 'C', 'o', 'd', 'e', 'c', 'O', 'p', 's'] := by kernel_rfl
set_option maxRecDepth 100000 in
theorem chars_ : Try.pinned.checked.prog.initOrder.toList = ['h', 'a', 'r', 'n', 'e', 's', 's', ' ', '5', '4', '8', '2', 'e', '7', 'c', '6', '2', 'f', '8', '8', '2', '8', '6', '9', '6', '9', 'a', 'e', '6', '7', '6', 'a', 'c', '2', 'e', 'f', 'a', 'a', '1', '8', 'c', 'b', '6', '4', '3', '1', '6', 'f', '3', '7', '9', '7', 'f', 'f', '7', '5', '8', '9', 'd', 'a', '5', 'e', '5', '7', '5', '1', 'd', '0', '4', 'd', 'c', 'a', ' ', 'c', 'u', 't', ' ', 'a', 't', ' ', 'c', 'o', 'u', 'n', 't', 'e', 'r', 'f', 'o', 'i', 'l', '/', 'c', 'o', 'u', 'n', 't', 'e', 'r', 'f', 'o', 'i', 'l', 'l', 'a', 'w', '2', '3', '.', 'C', 'o', 'd', 'e', 'c', 'O', 'p', 's'] := by
  rw [String.toByteArray_inj.1 (chars0_.trans String.toByteArray_ofList.symm), String.toList_ofList]
def rest_ : List (List Char) := (behindMainWord (wordsSigns ['h', 'a', 'r', 'n', 'e', 's', 's', ' ', '5', '4', '8', '2', 'e', '7', 'c', '6', '2', 'f', '8', '8', '2', '8', '6', '9', '6', '9', 'a', 'e', '6', '7', '6', 'a', 'c', '2', 'e', 'f', 'a', 'a', '1', '8', 'c', 'b', '6', '4', '3', '1', '6', 'f', '3', '7', '9', '7', 'f', 'f', '7', '5', '8', '9', 'd', 'a', '5', 'e', '5', '7', '5', '1', 'd', '0', '4', 'd', 'c', 'a', ' ', 'c', 'u', 't', ' ', 'a', 't', ' ', 'c', 'o', 'u', 'n', 't', 'e', 'r', 'f', 'o', 'i', 'l', '/', 'c', 'o', 'u', 'n', 't', 'e', 'r', 'f', 'o', 'i', 'l', 'l', 'a', 'w', '2', '3', '.', 'C', 'o', 'd', 'e', 'c', 'O', 'p', 's'])).tail
set_option maxRecDepth 100000 in
theorem words_ : behindMainWord (wordsSigns Try.pinned.checked.prog.initOrder.toList) = ['c', 'u', 't'] :: rest_ := by rw [chars_]; kernel_rfl
set_option maxRecDepth 100000 in
theorem strip_ (r : List (List Char)) : stripLifts liftWords (['c', 'u', 't'] :: r) = ([], ['c', 'u', 't'] :: r) := by kernel_rfl
set_option maxRecDepth 100000 in
theorem later_ : Try.pinned.checked.prog.laysLater = false := by kernel_rfl
set_option maxRecDepth 100000 in
theorem bears_ : Try.pinned.checked.prog.bearsReflect = false := by kernel_rfl
set_option maxRecDepth 100000 in
theorem door_ : Try.pinned.checked.prog.doorFits [] = true := by kernel_rfl
theorem enter_of (P : Program) (r : List (List Char)) (h : behindMainWord (wordsSigns P.initOrder.toList) = ['c', 'u', 't'] :: r) (l : P.laysLater = false) (b : P.bearsReflect = false) (d : P.doorFits [] = true) : P.mayEnter = true := by
  unfold Program.mayEnter
  rw [h]
  simp only [strip_, l, b, d]
  kernel_rfl
theorem lifts_of (P : Program) (r : List (List Char)) (h : behindMainWord (wordsSigns P.initOrder.toList) = ['c', 'u', 't'] :: r) : P.liftsFinal = false := by
  unfold Program.liftsFinal Program.headLifts
  rw [h, strip_]
  kernel_rfl
theorem make_of (P : Program) (r : List (List Char)) (h : behindMainWord (wordsSigns P.initOrder.toList) = ['c', 'u', 't'] :: r) : P.make = some .cut := by
  unfold Program.make
  rw [h]
  kernel_rfl
theorem enter_ : Try.pinned.checked.prog.mayEnter = true := enter_of _ _ words_ later_ bears_ door_
theorem lifts_ : Try.pinned.checked.prog.liftsFinal = false := lifts_of _ _ words_
theorem make_ : Try.pinned.checked.prog.make = some .cut := make_of _ _ words_
end Go.Proofs.Ytoaodcbfehfdoaa
