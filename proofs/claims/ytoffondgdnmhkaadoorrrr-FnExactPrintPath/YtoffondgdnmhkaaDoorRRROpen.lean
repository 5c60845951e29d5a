/- An argument of type Big, as it came in, is a sign and a slice of integers that lie in memory: the lemma by which the proofs of this seat open it. No condition. -/
import Derived.Test.YtoffondgdnmhkaaDoorRRREq
import Derived.ShutString
import Derived.ChangeOld
import Derived.Lib.SmallJoins
namespace Go.Proofs.YtoffondgdnmhkaaDoorRRR
open Go.ChangeShapes Go.WideShapes Go.ChangeAt Go.RowKit Go.Joins
set_option linter.unusedVariables false
set_option maxRecDepth 100000
set_option linter.unusedSimpArgs false

theorem own : ownKnob Tryd.prog.godebug = none := by kernel_rfl
theorem laidOut : laidOutB Tryd.prog = true := by kernel_rfl
theorem Tryd.cells3 : Tryd.prog.cellsOf 3 = 1 := by kernel_rfl

end Go.Proofs.YtoffondgdnmhkaaDoorRRR
