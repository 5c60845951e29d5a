/- MovePts of the specification. No condition beyond those typed. -/
import Derived.Test.YtoffondgdnmhkaaDoorRRRSp8T
namespace Go.Proofs.YtoffondgdnmhkaaDoorRRR
open Go.RowKit
set_option linter.unusedVariables false
set_option maxRecDepth 100000
set_option linter.unusedSimpArgs false

def mvL (l : List (Int × Int)) (q : Int × Int) : List (Int × Int) := l.map (fun p => (p.1 + q.1, p.2 + q.2))
def mvB (l : List (Int × Int)) (q : Int × Int) : Bool := (wayB l && gPt q) && (mvL l q).all gPt
def mvV (l : List (Int × Int)) (q : Int × Int) : List (Int × Int) := if mvB l q then mvL l q else []
theorem mvL_succ {l : List (Int × Int)} (q : Int × Int) {j : Nat} (h : j < l.length) : mvL (l.take (j + 1)) q = mvL (l.take j) q ++ [((l.getD j (0, 0)).1 + q.1, (l.getD j (0, 0)).2 + q.2)] := by
  unfold mvL
  rw [take_succP h, List.map_append, getD_gt h]
  rfl
end Go.Proofs.YtoffondgdnmhkaaDoorRRR
