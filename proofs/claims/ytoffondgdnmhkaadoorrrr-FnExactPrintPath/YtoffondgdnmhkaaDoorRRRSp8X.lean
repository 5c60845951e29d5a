/- l8Meet and SegmentsMeet of the specification. No condition beyond those typed. Written by mkmeet8.py. -/
import Derived.Test.YtoffondgdnmhkaaDoorRRRSp8
namespace Go.Proofs.YtoffondgdnmhkaaDoorRRR
open Go.RowKit
set_option linter.unusedVariables false
set_option maxRecDepth 100000
set_option linter.unusedSimpArgs false

/-- Whether two segments have a point in common, as it is reckoned. -/
def meV (a b c d : Int × Int) : Bool := if onV a b c || onV a b d || onV c d a || onV c d b then true else decide (sgZ (crs a b c) * sgZ (crs a b d) < 0) && decide (sgZ (crs c d a) * sgZ (crs c d b) < 0)
theorem sg_bd (n : Int) : -1 ≤ sgZ n ∧ sgZ n ≤ 1 := by
  unfold sgZ
  split
  · omega
  · split <;> omega
theorem sg_mul {u v : Int} (h : -1 ≤ u ∧ u ≤ 1) (k : -1 ≤ v ∧ v ≤ 1) : IntKind.i64.wrap (u * v) = u * v := by
  have m := @mul_bd u v (by omega) (by omega) (by omega) (by omega)
  rw [IntKind.wrap_i64]; omega
theorem al4 (w : World) (o p q r : Obj) : Below w.heap.size w ((((w.alloc o).alloc p).alloc q).alloc r) := (al3 w o p q).alloc (by simp; omega) _
theorem cellsP4 (w : World) (a b c d : Int × Int) : SlP (w.alloc (.cells #[.int .i64 a.1, .int .i64 a.2, .int .i64 b.1, .int .i64 b.2, .int .i64 c.1, .int .i64 c.2, .int .i64 d.1, .int .i64 d.2] 46)) (some ⟨w.heap.size, 0, none⟩) [a, b, c, d] := by
  refine .inr ⟨w.heap.size, 0, rfl, by simp, fun i hi => ?_⟩
  match i, hi with
  | 0, _ => exact ⟨by simp [go_sem], by simp [go_sem]⟩
  | 1, _ => exact ⟨by simp [go_sem], by simp [go_sem]⟩
  | 2, _ => exact ⟨by simp [go_sem], by simp [go_sem]⟩
  | 3, _ => exact ⟨by simp [go_sem], by simp [go_sem]⟩
def smV (a b c d : Int × Int) : Bool := if [a, b, c, d].all gPt then meV a b c d else false
end Go.Proofs.YtoffondgdnmhkaaDoorRRR
