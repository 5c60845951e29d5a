/- A digit of a quotient, guessed and taken off in place: the specification's l1Guess, l1Less and l1Back. No condition beyond those typed. -/
import Derived.Test.YtokajpeopijneaaDivI
namespace Go.Proofs.Ytokajpeopijneaa
open Go.RowKit
set_option linter.unusedVariables false
set_option maxRecDepth 100000
set_option linter.unusedSimpArgs false

theorem But.drewN {lo hi : Nat} {w w' : World} (h : But lo hi w w') (N : Nat) : But lo hi w (w'.drewN N) := ⟨h.os, h.tape, h.output, h.size, h.block⟩
theorem GInv.small {dg lf top v1 v2 u2 : Int} (h : GInv dg lf top v1 v2 u2) (h1 : 0 ≤ v1) (ht : top ≤ v1 * 65536 + 65535) (hg : 65536 ≤ dg) : lf < 65536 := by
  have e := h.e
  have : 65536 * v1 ≤ dg * v1 := Int.mul_le_mul_of_nonneg_right hg h1
  omega
theorem GInv.great {dg lf top v1 v2 u2 : Int} (h : GInv dg lf top v1 v2 u2) (hd : dg ≤ 65535) (hl : 65536 ≤ lf) (hv0 : 0 ≤ v2) (hv : v2 ≤ 65535) (hu : 0 ≤ u2) : dg * v2 ≤ lf * 65536 + u2 := by
  have : dg * v2 ≤ 65535 * 65535 := Int.mul_le_mul hd hv hv0 (by omega)
  omega

theorem less_arith (t : Int) (h : t < 0) : (-t + 65536 - 1) / 65536 = -(t / 65536) ∧ t + -(t / 65536) * 65536 = t % 65536 := by
  constructor <;> omega

end Go.Proofs.Ytokajpeopijneaa
