/- Closed facts of the loaded program's head, by the list of its signs (the kernel's memory). No condition. -/
import Derived.Test.YtcgbpcipdanfhaaOpen
namespace Go.Proofs.Ytcgbpcipdanfhaa
open Go.ChangeShapes Go.WideShapes Go.ChangeAt Go.RowKit Go.Joins
set_option linter.unusedVariables false
set_option maxRecDepth 100000

def ioSigns : List Char := [104, 97, 114, 110, 101, 115, 115, 32, 52, 54, 56, 52, 50, 52, 99, 49, 51, 101, 54, 101, 54, 100, 57, 55, 98, 99, 54, 97, 101, 57, 51, 50, 51, 51, 102, 57, 97, 55, 57, 99, 53, 48, 57, 50, 48, 55, 55, 102, 50, 99, 102, 100, 51, 52, 54, 101, 57, 97, 53, 50, 98, 53, 55, 57, 100, 51, 97, 57, 97, 48, 53, 56, 32, 99, 117, 116, 32, 97, 116, 32, 108, 111, 111, 112, 46, 101, 120, 97, 109, 112, 108, 101, 47, 103, 48, 48, 52, 48, 57, 47, 108, 97, 119, 115, 46, 70, 110, 69, 120, 97, 99, 116, 71, 111, 111, 100, 82, 117, 110, 115, 32, 108, 111, 111, 112, 46, 101, 120, 97, 109, 112, 108, 101, 47, 103, 48, 48, 52, 48, 57, 47, 108, 97, 119, 115, 46, 70, 110, 69, 120, 97, 99, 116, 82, 117, 110, 115, 79, 102, 32, 108, 111, 111, 112, 46, 101, 120, 97, 109, 112, 108, 101, 47, 103, 48, 48, 52, 48, 57, 47, 108, 97, 119, 115, 46, 70, 110, 69, 120, 97, 99, 116, 70, 114, 111, 109, 82, 117, 110, 115, 32, 108, 111, 111, 112, 46, 101, 120, 97, 109, 112, 108, 101, 47, 103, 48, 48, 52, 48, 57, 47, 108, 97, 119, 115, 46, 70, 110, 69, 120, 97, 99, 116, 82, 101, 97, 100, 80, 105, 99, 116, 117, 114, 101, 32, 108, 111, 111, 112, 46, 101, 120, 97, 109, 112, 108, 101, 47, 103, 48, 48, 52, 48, 57, 47, 108, 97, 119, 115, 46, 70, 110, 69, 120, 97, 99, 116, 74, 111, 105, 110, 82, 117, 110, 115].map Char.ofNat
theorem io_eq : Try.pinned.checked.prog.initOrder = String.ofList ioSigns := by kernel_rfl
theorem io_list : Try.pinned.checked.prog.initOrder.toList = ioSigns := by rw [io_eq, String.toList_ofList]
theorem io_words : behindMainWord (wordsSigns Try.pinned.checked.prog.initOrder.toList) = "cut".toList :: (wordsSigns (ioSigns.drop 77)) := by rw [io_list]; kernel_rfl
theorem make_of (P : Program) (rest : List (List Char)) (h : behindMainWord (wordsSigns P.initOrder.toList) = "cut".toList :: rest) : P.make = some .cut := by
  unfold Program.make
  rw [h]
  kernel_rfl
theorem strip_of (rest : List (List Char)) : stripLifts liftWords ("cut".toList :: rest) = ([], "cut".toList :: rest) := by kernel_rfl
theorem enter_of (P : Program) (rest : List (List Char)) (h : behindMainWord (wordsSigns P.initOrder.toList) = "cut".toList :: rest) (h1 : P.laysLater = false) (h2 : P.bearsReflect = false) (h3 : P.doorFits [] = true) : P.mayEnter = true := by
  unfold Program.mayEnter
  rw [h]
  simp only [strip_of, h1, h2, h3]
  kernel_rfl
theorem io_lays : Try.pinned.checked.prog.laysLater = false := by
  unfold Program.laysLater
  rw [← Array.any_toList]
  kernel_rfl
theorem io_refl : Try.pinned.checked.prog.bearsReflect = false := by kernel_rfl
theorem io_head : Try.pinned.checked.prog.headLifts = [] := by
  unfold Program.headLifts
  rw [io_words]
  kernel_rfl
theorem io_door : Try.pinned.checked.prog.doorFits [] = true := by kernel_rfl
theorem io_enter : Try.pinned.checked.prog.mayEnter = true := enter_of _ _ io_words io_lays io_refl io_door
theorem io_lifts : Try.pinned.checked.prog.liftsFinal = false := by
  unfold Program.liftsFinal
  rw [io_words, io_head]
  kernel_rfl
theorem io_make : Try.pinned.checked.prog.make = some .cut := make_of _ _ io_words
end Go.Proofs.Ytcgbpcipdanfhaa
