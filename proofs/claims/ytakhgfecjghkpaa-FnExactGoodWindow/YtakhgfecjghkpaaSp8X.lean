/- l8Meet and SegmentsMeet of the specification. No condition beyond those typed. Written by mkmeet8.py. -/
import Derived.Test.YtakhgfecjghkpaaSp8
namespace Go.Proofs.Ytakhgfecjghkpaa
open Go.RowKit
set_option linter.unusedVariables false
set_option maxRecDepth 100000
set_option linter.unusedSimpArgs false

/-- Whether two segments have a point in common, as it is reckoned. -/
def meV (a b c d : Int × Int) : Bool := if onV a b c || onV a b d || onV c d a || onV c d b then true else decide (sgZ (crs a b c) * sgZ (crs a b d) < 0) && decide (sgZ (crs c d a) * sgZ (crs c d b) < 0)
theorem sg_bd (n : Int) : -1 ≤ sgZ n ∧ sgZ n ≤ 1 := by
  unfold sgZ
  split
  · omega
  · split <;> omega
theorem sg_mul {u v : Int} (h : -1 ≤ u ∧ u ≤ 1) (k : -1 ≤ v ∧ v ≤ 1) : IntKind.i64.wrap (u * v) = u * v := by
  have m := @mul_bd u v (by omega) (by omega) (by omega) (by omega)
  rw [IntKind.wrap_i64]; omega
theorem al4 (w : World) (o p q r : Obj) : Below w.heap.size w ((((w.alloc o).alloc p).alloc q).alloc r) := (al3 w o p q).alloc (by simp; omega) _
def smV (a b c d : Int × Int) : Bool := if [a, b, c, d].all gPt then meV a b c d else false
end Go.Proofs.Ytakhgfecjghkpaa
