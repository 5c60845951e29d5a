/- Quotients of limbs by others: the specification's l1DivLimbs. No condition beyond those typed. -/
import Derived.Test.YtokajpeopijneaaDivV
namespace Go.Proofs.Ytokajpeopijneaa
open Go.RowKit
set_option linter.unusedVariables false
set_option maxRecDepth 100000
set_option linter.unusedSimpArgs false

theorem lead_le {qs ys : List Int} {j m : Nat} (hq : okL qs) (hy : okL ys) (ty : trim ys = ys) (hl : ys.length = m) (hm : 1 ≤ m) (h : val ((qs.drop j).take (m + 1)) < val ys * 65536) : qs.getD (j + m) 0 ≤ ys.getD (m - 1) 0 := by
  have e := val_take_succ ((qs.drop j).take (m + 1)) m
  rw [win_get qs j m (m + 1) (by omega), List.take_of_length_le (i := m + 1) (by rw [List.length_take]; omega)] at e
  have p0 := val_nonneg (okL_take (okL_take (okL_drop hq j) (m + 1)) m)
  obtain ⟨_, t2, _⟩ := top_pos hy ty hl hm
  have hp : (0 : Int) < 65536 ^ (m - 1) := Int.pow_pos (by omega)
  have e2 : (65536 : Int) ^ m = 65536 ^ (m - 1) * 65536 := by have := Int.pow_succ (65536 : Int) (m - 1); rw [show (m - 1).succ = m by omega] at this; exact this
  generalize ys.getD (m - 1) 0 = y at *
  generalize qs.getD (j + m) 0 = u at *
  rcases Int.lt_or_le y u with h' | h'
  · exfalso
    have h1 : 65536 ^ m * (y + 1) ≤ 65536 ^ m * u := Int.mul_le_mul_of_nonneg_left (by omega) (by omega)
    have h2 : 65536 ^ m * (y + 1) = 65536 ^ (m - 1) * (y + 1) * 65536 := by rw [e2, Int.mul_right_comm]
    omega
  · exact h'
theorem bits_next {y : Int} {s : Nat} (hy : 1 ≤ y) (h : y * 2 ^ s < 32768) : y * 2 ^ (s + 1) < 65536 ∧ s < 15 := by
  have hp : (0 : Int) < 2 ^ s := Int.pow_pos (by omega)
  constructor
  · rw [Int.pow_succ, ← Int.mul_assoc]; omega
  · rcases Nat.lt_or_ge s 15 with h' | h'
    · exact h'
    · have h1 : 1 * (2 : Int) ^ s ≤ y * 2 ^ s := Int.mul_le_mul_of_nonneg_right hy (by omega)
      have h2 : (2 : Int) ^ 15 ≤ 2 ^ s := by
        have := Nat.pow_le_pow_right (show 0 < 2 by omega) h'
        exact_mod_cast this
      omega

end Go.Proofs.Ytokajpeopijneaa
