/- Quotients of limbs by others: the program's divLong, divLimbs and gcdLimbs. No condition beyond those typed. -/
import Derived.Test.YtdgonpbponnnaaaDivW
import Derived.Lib.Strings
import Derived.Lib.Slices
import Derived.Lib.Small
import Derived.Lib.Walk
import Derived.Lib.BitFns
namespace Go.Proofs.Ytdgonpbponnnaaa
open Go.RowKit
set_option linter.unusedVariables false
set_option maxRecDepth 100000
set_option linter.unusedSimpArgs false

theorem bitLen_fits : ∀ n : Fin 256, n.val < 2 ^ Lib.bitLen n.val ∧ Lib.bitLen n.val ≤ 8 ∧ (1 ≤ n.val → 1 ≤ Lib.bitLen n.val) := by decide +kernel
theorem len8_fits (x : Int) (h0 : 0 ≤ x) (h1 : x ≤ 255) : ∃ k : Nat, Lib.len8 x = k ∧ k ≤ 8 ∧ x < 2 ^ k ∧ (1 ≤ x → 1 ≤ k) := by
  obtain ⟨a, b, c⟩ := bitLen_fits ⟨x.toNat, by omega⟩
  refine ⟨Lib.bitLen x.toNat, Lib.len8_of x h0 h1, b, ?_, fun h => c (by show 1 ≤ x.toNat; omega)⟩
  have a' : x.toNat < 2 ^ Lib.bitLen x.toNat := a
  have : ((x.toNat : Nat) : Int) < ((2 ^ Lib.bitLen x.toNat : Nat) : Int) := by exact_mod_cast a'
  rw [Int.toNat_of_nonneg h0] at this
  simpa using this

end Go.Proofs.Ytdgonpbponnnaaa
