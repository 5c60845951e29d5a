/- Quotients of limbs by two limbs or more: the program's divLong. No condition beyond those typed. -/
import Derived.Test.YtdgonpbponnnaaaDoorDivK
namespace Go.Proofs.YtdgonpbponnnaaaDoor
open Go.RowKit
set_option linter.unusedVariables false
set_option maxRecDepth 100000
set_option linter.unusedSimpArgs false

end Go.Proofs.YtdgonpbponnnaaaDoor
