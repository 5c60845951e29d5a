/- The walk through the law FnExactGcdInt: it returns true. No condition beyond those typed. Written by mklaws8.py. -/
import Derived.Test.YtpchoiaombigjaaIm8
namespace Go.Proofs.Ytpchoiaombigjaa
open Go.RowKit
set_option linter.unusedVariables false
set_option maxRecDepth 100000
set_option linter.unusedSimpArgs false

theorem lawGcdInt_walk (a b : Int) (w : World) (ha : -9223372036854775808 ≤ a ∧ a ≤ 9223372036854775807) (hb : -9223372036854775808 ≤ b ∧ b ≤ 9223372036854775807) :
    Calls Try.prog 13 #[.int .i64 a, .int .i64 b] w fun e w' => e = .returned (.bool true) ∧ Below w.heap.size w w' := by
  clear ha hb
  have CS := hide (fun w => GcdIntS a b w)
  have CI := hide (fun w => GcdIntI a b w)
  generalize (if gcI a b then gcdZ a b else 0) = v at *
  generalize gcI a b = u at *
  have x0 : (v != v) = false := by simp
  have x1 : (u != u) = false := by simp
  go_enter Try.func13, Try.ntmps13
  go_wp2_with fail
  refine (unhide CS _).mono ?_
  rintro e w1 ⟨rfl, rfl⟩
  go_wp2_with fail
  refine (unhide CI _).mono ?_
  rintro e w2 ⟨rfl, hb⟩
  go_wp2_with fail
  go_ret
  exact ⟨rfl, hb⟩
end Go.Proofs.Ytpchoiaombigjaa
