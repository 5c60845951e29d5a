/- Products of numbers with signs: the program's mulSigned, the specification's l1Mul. No condition beyond those typed. -/
import Derived.Test.YtdgonpbponnnaaaDoorMulI
import Derived.Test.YtdgonpbponnnaaaDoorSgs
import Derived.Test.YtdgonpbponnnaaaDoorLaw2
namespace Go.Proofs.YtdgonpbponnnaaaDoor
open Go.RowKit
set_option linter.unusedVariables false
set_option maxRecDepth 100000
set_option linter.unusedSimpArgs false

theorem mul_len {w : World} {zs xs ys : List Int} {a a' : Option Addr} {n m c c' : Nat} (h : Nm zs (val xs * val ys)) (hx : Num w a n c xs) (hy : Num w a' m c' ys) (hn : n ≤ 500000) (hm : m ≤ 500000) : zs.length ≤ 1048576 := by
  by_cases h0 : zs.length = 0
  · omega
  have h1 := top_le h.ok h.tr (by omega)
  have h2 := val_lt hx.ok
  have h3 := val_lt hy.ok
  have p2 := val_nonneg hx.ok
  have p3 := val_nonneg hy.ok
  rw [h.v] at h1
  rw [hx.arg.len] at h2
  rw [hy.arg.len] at h3
  have h4 : val xs * val ys ≤ 65536 ^ n * 65536 ^ m := Int.mul_le_mul (by omega) (by omega) p3 (by omega)
  rw [← Int.pow_add] at h4
  by_cases hl : zs.length ≤ 1048576
  · exact hl
  · have h5 := pow_mono (show n + m + 1 ≤ zs.length - 1 by omega)
    rw [Int.pow_succ] at h5
    have h7 : (0 : Int) < 65536 ^ (n + m) := Int.pow_pos (by omega)
    omega
theorem sv_mul (g g' : Bool) (xs ys : List Int) : sv g xs * sv g' ys = if (!(g == g')) then -(val xs * val ys) else val xs * val ys := by
  cases g <;> cases g' <;> simp [sv, Int.mul_neg, Int.neg_mul]
end Go.Proofs.YtdgonpbponnnaaaDoor
