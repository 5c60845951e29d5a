/- Closed facts of the loaded program's head, by the list of its signs (the kernel's memory). No condition. -/
import Derived.Test.YtaaajmdneaaeeaaOpen
namespace Go.Proofs.Ytaaajmdneaaeeaa
open Go.ChangeShapes Go.WideShapes Go.ChangeAt Go.RowKit Go.Joins
set_option linter.unusedVariables false
set_option maxRecDepth 100000

def ioSigns : List Char := [104, 97, 114, 110, 101, 115, 115, 32, 54, 99, 98, 53, 98, 55, 54, 51, 98, 57, 49, 101, 55, 51, 57, 50, 56, 50, 54, 102, 102, 97, 56, 51, 100, 56, 100, 50, 102, 97, 57, 53, 98, 97, 55, 99, 49, 98, 54, 56, 54, 52, 97, 49, 51, 49, 53, 97, 53, 99, 57, 100, 100, 101, 55, 99, 52, 57, 101, 48, 54, 53, 57, 102, 32, 99, 117, 116, 32, 97, 116, 32, 108, 111, 111, 112, 46, 101, 120, 97, 109, 112, 108, 101, 47, 103, 48, 48, 52, 48, 57, 47, 108, 97, 119, 115, 46, 70, 110, 68, 101, 116, 115, 32, 108, 111, 111, 112, 46, 101, 120, 97, 109, 112, 108, 101, 47, 103, 48, 48, 52, 48, 57, 47, 108, 97, 119, 115, 46, 70, 110, 69, 120, 97, 99, 116, 68, 101, 116, 79, 102, 32, 108, 111, 111, 112, 46, 101, 120, 97, 109, 112, 108, 101, 47, 103, 48, 48, 52, 48, 57, 47, 108, 97, 119, 115, 46, 70, 110, 69, 120, 97, 99, 116, 68, 101, 116, 66, 121, 80, 97, 114, 116, 115, 32, 108, 111, 111, 112, 46, 101, 120, 97, 109, 112, 108, 101, 47, 103, 48, 48, 52, 48, 57, 47, 108, 97, 119, 115, 46, 70, 110, 69, 120, 97, 99, 116, 83, 121, 108, 118, 101, 115, 116, 101, 114, 79, 102, 32, 108, 111, 111, 112, 46, 101, 120, 97, 109, 112, 108, 101, 47, 103, 48, 48, 52, 48, 57, 47, 108, 97, 119, 115, 46, 70, 110, 69, 120, 97, 99, 116, 82, 101, 115, 117, 108, 116, 97, 110, 116, 79, 102, 32, 108, 111, 111, 112, 46, 101, 120, 97, 109, 112, 108, 101, 47, 103, 48, 48, 52, 48, 57, 47, 108, 97, 119, 115, 46, 70, 110, 69, 120, 97, 99, 116, 68, 105, 115, 99, 114, 105, 109, 105, 110, 97, 110, 116, 79, 102, 32, 108, 111, 111, 112, 46, 101, 120, 97, 109, 112, 108, 101, 47, 103, 48, 48, 52, 48, 57, 47, 108, 97, 119, 115, 46, 70, 110, 69, 120, 97, 99, 116, 84, 114, 97, 110, 115, 112, 111, 115, 101, 79, 102].map Char.ofNat
theorem io_eq : Try.pinned.checked.prog.initOrder = String.ofList ioSigns := by kernel_rfl
theorem io_list : Try.pinned.checked.prog.initOrder.toList = ioSigns := by rw [io_eq, String.toList_ofList]
theorem io_words : behindMainWord (wordsSigns Try.pinned.checked.prog.initOrder.toList) = "cut".toList :: (wordsSigns (ioSigns.drop 77)) := by rw [io_list]; kernel_rfl
theorem make_of (P : Program) (rest : List (List Char)) (h : behindMainWord (wordsSigns P.initOrder.toList) = "cut".toList :: rest) : P.make = some .cut := by
  unfold Program.make
  rw [h]
  kernel_rfl
theorem strip_of (rest : List (List Char)) : stripLifts liftWords ("cut".toList :: rest) = ([], "cut".toList :: rest) := by kernel_rfl
theorem enter_of (P : Program) (rest : List (List Char)) (h : behindMainWord (wordsSigns P.initOrder.toList) = "cut".toList :: rest) (h1 : P.laysLater = false) (h2 : P.bearsReflect = false) (h3 : P.doorFits [] = true) : P.mayEnter = true := by
  unfold Program.mayEnter
  rw [h]
  simp only [strip_of, h1, h2, h3]
  kernel_rfl
theorem io_lays : Try.pinned.checked.prog.laysLater = false := by
  unfold Program.laysLater
  rw [← Array.any_toList]
  kernel_rfl
theorem io_refl : Try.pinned.checked.prog.bearsReflect = false := by kernel_rfl
theorem io_head : Try.pinned.checked.prog.headLifts = [] := by
  unfold Program.headLifts
  rw [io_words]
  kernel_rfl
theorem io_door : Try.pinned.checked.prog.doorFits [] = true := by kernel_rfl
theorem io_enter : Try.pinned.checked.prog.mayEnter = true := enter_of _ _ io_words io_lays io_refl io_door
theorem io_lifts : Try.pinned.checked.prog.liftsFinal = false := by
  unfold Program.liftsFinal
  rw [io_words, io_head]
  kernel_rfl
theorem io_make : Try.pinned.checked.prog.make = some .cut := make_of _ _ io_words
end Go.Proofs.Ytaaajmdneaaeeaa
