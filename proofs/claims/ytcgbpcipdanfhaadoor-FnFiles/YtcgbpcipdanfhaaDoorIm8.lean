/- Chapter 8 of the program: points in range, turns, segments, greatest divisors. No condition beyond those typed. Written by mkim8.py. -/
import Derived.Test.YtcgbpcipdanfhaaDoorSp8X
import Derived.Test.YtcgbpcipdanfhaaDoorSp8M
import Derived.Test.YtcgbpcipdanfhaaDoorLaw2
import Derived.BigQuiet
namespace Go.Proofs.YtcgbpcipdanfhaaDoor
open Go.RowKit
set_option linter.unusedVariables false
set_option maxRecDepth 100000
set_option linter.unusedSimpArgs false

theorem sg_zero (k : Int) : decide (k = 0) = decide (sgZ k = 0) := by
  unfold sgZ
  split
  · rw [decide_eq_false (by omega), decide_eq_false (by omega)]
  · split
    · rw [decide_eq_false (by omega), decide_eq_false (by omega)]
    · rw [decide_eq_true (by omega), decide_eq_true rfl]
def meI (a b c d : Int × Int) : Bool := (onV a b c || onV a b d) || (onV c d a || onV c d b) || (decide (sgZ (crs a b c) * sgZ (crs a b d) < 0) && decide (sgZ (crs c d a) * sgZ (crs c d b) < 0))
theorem meI_eq (a b c d : Int × Int) : meI a b c d = meV a b c d := by
  unfold meI meV
  cases onV a b c <;> cases onV a b d <;> cases onV c d a <;> cases onV c d b <;> rfl
end Go.Proofs.YtcgbpcipdanfhaaDoor
