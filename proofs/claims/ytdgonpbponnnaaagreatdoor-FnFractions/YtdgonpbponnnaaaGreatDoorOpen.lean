/- An argument of type Big, as it came in, is a sign and a slice of integers that lie in memory: the lemma by which the proofs of this seat open it. No condition. -/
import Derived.Test.YtdgonpbponnnaaaGreatDoorEq
import Derived.ShutString
import Derived.ChangeOld
import Derived.Lib.SmallJoins
namespace Go.Proofs.YtdgonpbponnnaaaGreatDoor
open Go.ChangeShapes Go.WideShapes Go.ChangeAt Go.RowKit Go.Joins
set_option linter.unusedVariables false
set_option maxRecDepth 100000
set_option linter.unusedSimpArgs false

theorem own : ownKnob Tryz.prog.godebug = none := by kernel_rfl
theorem laidOut : laidOutB Tryz.prog = true := by kernel_rfl
theorem Tryz.cells3 : Tryz.prog.cellsOf 3 = 1 := by kernel_rfl

end Go.Proofs.YtdgonpbponnnaaaGreatDoor
