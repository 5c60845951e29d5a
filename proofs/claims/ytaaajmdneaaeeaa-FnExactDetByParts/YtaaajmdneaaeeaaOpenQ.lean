/- Arguments made of numbers, as they came in: signs and slices of integers that lie in memory. No condition. -/
import Derived.Test.YtaaajmdneaaeeaaOpenR
import Derived.Test.YtaaajmdneaaeeaaFlat
namespace Go.Proofs.Ytaaajmdneaaeeaa
open Go.ChangeShapes Go.WideShapes Go.ChangeAt Go.RowKit Go.Joins
set_option linter.unusedVariables false
set_option maxRecDepth 100000
set_option linter.unusedSimpArgs false

end Go.Proofs.Ytaaajmdneaaeeaa
