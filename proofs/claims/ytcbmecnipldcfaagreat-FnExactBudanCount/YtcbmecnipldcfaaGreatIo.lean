/- Closed facts of the loaded program's head, by the list of its signs (the kernel's memory). No condition. -/
import Derived.Test.YtcbmecnipldcfaaGreatOpen
namespace Go.Proofs.YtcbmecnipldcfaaGreat
open Go.ChangeShapes Go.WideShapes Go.ChangeAt Go.RowKit Go.Joins
set_option linter.unusedVariables false
set_option maxRecDepth 100000

def ioSigns : List Char := [104, 97, 114, 110, 101, 115, 115, 32, 52, 100, 56, 51, 97, 51, 54, 57, 49, 56, 55, 53, 102, 49, 54, 101, 100, 48, 97, 50, 56, 100, 48, 56, 50, 52, 57, 55, 98, 50, 97, 98, 51, 55, 52, 51, 99, 56, 101, 98, 56, 53, 56, 97, 101, 56, 49, 51, 101, 57, 53, 52, 50, 53, 99, 50, 98, 101, 102, 54, 52, 97, 51, 102, 32, 99, 117, 116, 32, 97, 116, 32, 108, 111, 111, 112, 46, 101, 120, 97, 109, 112, 108, 101, 47, 103, 48, 48, 52, 48, 57, 47, 108, 97, 119, 115, 46, 70, 110, 69, 120, 97, 99, 116, 82, 111, 117, 110, 100, 79, 117, 116, 32, 108, 111, 111, 112, 46, 101, 120, 97, 109, 112, 108, 101, 47, 103, 48, 48, 52, 48, 57, 47, 108, 97, 119, 115, 46, 70, 110, 69, 120, 97, 99, 116, 83, 104, 105, 102, 116, 80, 111, 108, 121, 32, 108, 111, 111, 112, 46, 101, 120, 97, 109, 112, 108, 101, 47, 103, 48, 48, 52, 48, 57, 47, 108, 97, 119, 115, 46, 70, 110, 69, 120, 97, 99, 116, 66, 117, 100, 97, 110, 67, 111, 117, 110, 116].map Char.ofNat
theorem io_eq : Tryz.pinned.checked.prog.initOrder = String.ofList ioSigns := by kernel_rfl
theorem io_list : Tryz.pinned.checked.prog.initOrder.toList = ioSigns := by rw [io_eq, String.toList_ofList]
theorem io_words : behindMainWord (wordsSigns Tryz.pinned.checked.prog.initOrder.toList) = "cut".toList :: (wordsSigns (ioSigns.drop 77)) := by rw [io_list]; kernel_rfl
theorem make_of (P : Program) (rest : List (List Char)) (h : behindMainWord (wordsSigns P.initOrder.toList) = "cut".toList :: rest) : P.make = some .cut := by
  unfold Program.make
  rw [h]
  kernel_rfl
theorem strip_of (rest : List (List Char)) : stripLifts liftWords ("cut".toList :: rest) = ([], "cut".toList :: rest) := by kernel_rfl
theorem enter_of (P : Program) (rest : List (List Char)) (h : behindMainWord (wordsSigns P.initOrder.toList) = "cut".toList :: rest) (h1 : P.laysLater = false) (h2 : P.bearsReflect = false) (h3 : P.doorFits [] = true) : P.mayEnter = true := by
  unfold Program.mayEnter
  rw [h]
  simp only [strip_of, h1, h2, h3]
  kernel_rfl
theorem io_lays : Tryz.pinned.checked.prog.laysLater = false := by
  unfold Program.laysLater
  rw [← Array.any_toList]
  kernel_rfl
theorem io_refl : Tryz.pinned.checked.prog.bearsReflect = false := by kernel_rfl
theorem io_head : Tryz.pinned.checked.prog.headLifts = [] := by
  unfold Program.headLifts
  rw [io_words]
  kernel_rfl
theorem io_door : Tryz.pinned.checked.prog.doorFits [] = true := by kernel_rfl
theorem io_enter : Tryz.pinned.checked.prog.mayEnter = true := enter_of _ _ io_words io_lays io_refl io_door
theorem io_lifts : Tryz.pinned.checked.prog.liftsFinal = false := by
  unfold Program.liftsFinal
  rw [io_words, io_head]
  kernel_rfl
theorem io_make : Tryz.pinned.checked.prog.make = some .cut := make_of _ _ io_words
end Go.Proofs.YtcbmecnipldcfaaGreat
