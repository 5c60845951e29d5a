/- The walk through the law FnExactNumberText: it returns true. No condition beyond those typed. Written by mknt16.py. -/
import Derived.Test.YtoffondgdnmhkaaDoorRRRNt16
namespace Go.Proofs.YtoffondgdnmhkaaDoorRRR
open Go.RowKit
set_option linter.unusedVariables false
set_option maxRecDepth 100000
set_option linter.unusedSimpArgs false

set_option maxHeartbeats 8000000 in
theorem lawNumberText_walk (x0 : Int) (w : World) (hx0 : -9223372036854775808 ≤ x0 ∧ x0 ≤ 9223372036854775807) (ht : Tab15 w) :
    Calls Tryd.prog 3 #[.int .i64 x0] w fun e w' => e = .returned (.bool true) ∧ Below w.heap.size w w' := by
  have HT := hide ht
  clear ht
  have CS := hide (fun (w' : World) => NumberTextS x0 w')
  have CI := hide (fun (w' : World) (k : Tab15 w') => NumberTextI x0 w' k)
  generalize st (ntV x0) = v0 at CS CI
  have e0 : (v0 != v0) = false := st_ne v0
  generalize ntB x0 = v1 at CS CI
  have e1 : (v1 != v1) = false := by simp
  go_enter Tryd.func3, Tryd.ntmps3
  go_wp2_with fail
  refine (unhide CS _).mono ?_
  rintro e w2 ⟨rfl, hb⟩
  replace HT := hide ((unhide HT).later hb)
  have HB := hide (hb)
  clear hb
  go_wp2_with fail
  refine (unhide CI _ (unhide HT)).mono ?_
  rintro e w4 ⟨rfl, hb⟩
  replace HT := hide ((unhide HT).later hb)
  replace HB := hide (below_on (unhide HB) hb)
  clear hb
  go_wp2_with fail
  go_ret
  exact ⟨rfl, unhide HB⟩
end Go.Proofs.YtoffondgdnmhkaaDoorRRR
