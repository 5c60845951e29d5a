/- Fractions compared: the program's compareRats and the specification's l2Cmp. No condition beyond those typed. -/
import Derived.Test.YtokajpeopijneaaRatH
import Derived.Test.YtokajpeopijneaaMulSg
namespace Go.Proofs.Ytokajpeopijneaa
open Go.RowKit
set_option linter.unusedVariables false
set_option maxRecDepth 100000
set_option linter.unusedSimpArgs false

/-- A call compares the numbers A and B. -/
def OutC (w : World) (A B : Int) (e : Ending) (w' : World) : Prop := ∃ ts us, Nm ts A.natAbs ∧ Nm us B.natAbs ∧ e = .returned (.int .i64 (cmpB (decide (A < 0)) ts (decide (B < 0)) us)) ∧ Below w.heap.size w w'

end Go.Proofs.Ytokajpeopijneaa
