/- Plain mathematics: limbs from a place on. No condition beyond those typed. -/
import Derived.Test.YtdgonpbponnnaaaGreatDoorOrd
namespace Go.Proofs.YtdgonpbponnnaaaGreatDoor
open Go.RowKit
set_option linter.unusedVariables false
set_option maxRecDepth 100000
set_option linter.unusedSimpArgs false

theorem val_drop (xs : List Int) (k : Nat) : val xs = val (xs.take k) + 65536 ^ (xs.take k).length * val (xs.drop k) := by
  rw [← val_append, List.take_append_drop]
theorem val_drop_le {xs : List Int} (h : okL xs) (k : Nat) : val (xs.drop k) ≤ val xs := by
  rw [val_drop xs k]
  have h1 := val_nonneg (okL_take h k)
  have h2 := val_nonneg (okL_drop h k)
  have h3 : (1 : Int) ≤ 65536 ^ (xs.take k).length := Int.pow_pos (by omega)
  have h4 : 1 * val (xs.drop k) ≤ 65536 ^ (xs.take k).length * val (xs.drop k) := Int.mul_le_mul_of_nonneg_right h3 h2
  omega
theorem drop_succ {xs : List Int} {k : Nat} (h : k < xs.length) : val (xs.drop k) = xs.getD k 0 + 65536 * val (xs.drop (k + 1)) := by
  rw [List.drop_eq_getElem_cons h]
  simp [val, h]
end Go.Proofs.YtdgonpbponnnaaaGreatDoor
