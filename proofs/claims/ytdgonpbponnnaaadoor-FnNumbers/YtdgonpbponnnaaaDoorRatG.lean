/- Good fractions: the program's and the specification's GoodRat answer the same at every fraction. No condition beyond those typed. -/
import Derived.Test.YtdgonpbponnnaaaDoorRatL
import Derived.Test.YtdgonpbponnnaaaDoorDivJ
namespace Go.Proofs.YtdgonpbponnnaaaDoor
open Go.RowKit
set_option linter.unusedVariables false
set_option maxRecDepth 100000
set_option linter.unusedSimpArgs false

/-- Whether a fraction is good. -/
def goodR (g : Bool) (xs : List Int) (h : Bool) (us : List Int) : Bool := (goodB g xs && goodB h us) && (!h && (decide (us.length ≠ 0) && decide (Nat.gcd (val xs).toNat (val us).toNat = 1)))

theorem nm_one : Nm [1] 1 := ⟨okL_one (by omega) (by omega), trim_snoc_ne [] (by omega), by simp [val]⟩
theorem one_iff {zs : List Int} {V : Int} (h : Nm zs V) : (zs.length = 1 ∧ zs.getD 0 0 = 1) ↔ V = 1 := by
  constructor
  · rintro ⟨h1, h2⟩
    rw [← h.v, val_one h1, h2]
  · intro e
    subst e
    rw [h.same nm_one]
    exact ⟨rfl, rfl⟩
end Go.Proofs.YtdgonpbponnnaaaDoor
