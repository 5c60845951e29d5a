/- The laws' comparing functions eqIntS and eqBig answer true at like numbers. No condition beyond those typed. -/
import Derived.Test.YtdgonpbponnnaaaGreatDoorGood
namespace Go.Proofs.YtdgonpbponnnaaaGreatDoor
open Go.RowKit
set_option linter.unusedVariables false
set_option maxRecDepth 100000
set_option linter.unusedSimpArgs false

end Go.Proofs.YtdgonpbponnnaaaGreatDoor
