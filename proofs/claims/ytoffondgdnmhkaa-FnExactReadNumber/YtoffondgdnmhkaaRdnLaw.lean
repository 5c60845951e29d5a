/- The walk through the law FnExactReadNumber: it returns true. No condition beyond those typed. Written by mknt16.py. -/
import Derived.Test.YtoffondgdnmhkaaRd16
namespace Go.Proofs.Ytoffondgdnmhkaa
open Go.RowKit
set_option linter.unusedVariables false
set_option maxRecDepth 100000
set_option linter.unusedSimpArgs false

set_option maxHeartbeats 8000000 in
theorem lawReadNumber_walk (s0 : ByteArray) (w : World) (hm0 : s0.size ≤ maxLen) :
    Calls Try.prog 4 #[.string s0] w fun e w' => e = .returned (.bool true) ∧ Below w.heap.size w w' := by
  unfold maxLen at hm0
  by_cases hbig0 : 1048576 < s0.size
  · have hd : (1048576 : Int) < (s0.size : Int) := by omega
    go_enter Try.func4, Try.ntmps4
    go_wp2
    go_ret
    exact ⟨rfl, Below.refl _ _⟩
  have hd0 : ¬ ((1048576 : Int) < (s0.size : Int)) := by omega
  have hs0 : s0.size ≤ 1048576 := by omega
  have CS := hide (fun (w' : World) => ReadNumberS s0 w' hs0)
  have CI := hide (fun (w' : World) => ReadNumberI s0 w' hs0)
  generalize rdV s0.data.toList = v0 at CS CI
  have e0 : (v0 != v0) = false := by simp
  generalize rdB s0.data.toList = v1 at CS CI
  have e1 : (v1 != v1) = false := by simp
  go_enter Try.func4, Try.ntmps4
  go_wp2_with fail
  refine (unhide CS _).mono ?_
  rintro e w2 ⟨rfl, hb⟩
  have HB := hide (hb)
  clear hb
  go_wp2_with fail
  refine (unhide CI _).mono ?_
  rintro e w4 ⟨rfl, hb⟩
  replace HB := hide (below_on (unhide HB) hb)
  clear hb
  go_wp2_with fail
  go_ret
  exact ⟨rfl, unhide HB⟩
end Go.Proofs.Ytoffondgdnmhkaa
