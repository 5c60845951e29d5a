/- Good fractions: the specification's GoodRat. No condition beyond those typed. -/
import Derived.Test.YtdgonpbponnnaaaDoorRatG
namespace Go.Proofs.YtdgonpbponnnaaaDoor
open Go.RowKit
set_option linter.unusedVariables false
set_option maxRecDepth 100000
set_option linter.unusedSimpArgs false

theorem cmp_one {zs : List Int} {V : Int} (h : Nm zs V) : (cmpL zs [1] == 0) = decide (V = 1) := by
  have hv := cmpL_val h.ok nm_one.ok h.tr nm_one.tr
  rw [h.v, nm_one.v] at hv
  by_cases e : V = 1
  · have : cmpL zs [1] = 0 := by omega
    rw [this]; simp [e]
  · have : cmpL zs [1] ≠ 0 := by omega
    simp [this, e]

end Go.Proofs.YtdgonpbponnnaaaDoor
