/- Products of limbs: the program's mulLimbs and the specification's l1MulLimbs. No condition beyond those typed. -/
import Derived.Test.YtnmoiokgjdoenaaDoorMulM
namespace Go.Proofs.YtnmoiokgjdoenaaDoor
open Go.RowKit
set_option linter.unusedVariables false
set_option maxRecDepth 100000
set_option linter.unusedSimpArgs false

theorem row_cell {w : World} {base g L : Nat} {qs : List Int} (h : w.ownsRow base 3 1 (.slice (some ⟨g, 0, none⟩) L L) L (qs.map (Value.int .i64))) (hl : qs.length = L) {k : Nat} (hk : k < L) (d : Int) :
    w.cell? ⟨g, k, none⟩ = some (.int .i64 (qs.getD k 0)) ∧ w.frozen? ⟨g, k, none⟩ = false ∧ (w.setCell ⟨g, k, none⟩ (.int .i64 d)).ownsRow base 3 1 (.slice (some ⟨g, 0, none⟩) L L) L ((qs.set k d).map (Value.int .i64)) := by
  refine ⟨?_, h.frozenAt k, ?_⟩
  · rw [h.cellAt k (by omega)]
    simp [show k < qs.length by omega]
  · rw [List.map_set]
    exact (h.stored k (.int .i64 d)).1

end Go.Proofs.YtnmoiokgjdoenaaDoor
