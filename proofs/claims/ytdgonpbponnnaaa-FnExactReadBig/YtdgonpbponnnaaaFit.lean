/- Numbers that may be too long: the program's fitting, the specification's l1Fits. No condition beyond those typed. -/
import Derived.Test.YtdgonpbponnnaaaSgs
namespace Go.Proofs.Ytdgonpbponnnaaa
open Go.RowKit
set_option linter.unusedVariables false
set_option maxRecDepth 100000
set_option linter.unusedSimpArgs false

end Go.Proofs.Ytdgonpbponnnaaa
