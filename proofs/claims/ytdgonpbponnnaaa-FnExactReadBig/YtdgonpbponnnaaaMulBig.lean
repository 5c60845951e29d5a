/- MulBig: the program's and the specification's, at every two numbers: they answer the product, where both are good and it fits. No condition beyond those typed. -/
import Derived.Test.YtdgonpbponnnaaaMulSg
import Derived.Test.YtdgonpbponnnaaaAddBig
import Derived.Test.YtdgonpbponnnaaaLaw2
namespace Go.Proofs.Ytdgonpbponnnaaa
open Go.RowKit
set_option linter.unusedVariables false
set_option maxRecDepth 100000
set_option linter.unusedSimpArgs false

end Go.Proofs.Ytdgonpbponnnaaa
