/- Quotients of limbs and greatest common divisors: the specification's l1DivLimbs and l1Gcd. No condition beyond those typed. -/
import Derived.Test.YtokajpeopijneaaDivH
namespace Go.Proofs.Ytokajpeopijneaa
open Go.RowKit
set_option linter.unusedVariables false
set_option maxRecDepth 100000
set_option linter.unusedSimpArgs false

end Go.Proofs.Ytokajpeopijneaa
