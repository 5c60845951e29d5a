/- Plain mathematics: limbs compared from the top are numbers compared; a sign and limbs tell a number. No condition beyond those typed. -/
import Derived.Test.YtdgonpbponnnaaaGreatDoorSubS
import Derived.Test.YtdgonpbponnnaaaGreatDoorCmp
namespace Go.Proofs.YtdgonpbponnnaaaGreatDoor
open Go.RowKit
set_option linter.unusedVariables false
set_option maxRecDepth 100000
set_option linter.unusedSimpArgs false

theorem top_le {xs : List Int} (h : okL xs) (t : trim xs = xs) (h0 : 0 < xs.length) : (65536 : Int) ^ (xs.length - 1) ≤ val xs := by
  have e : xs = xs.take (xs.length - 1) ++ [xs.getD (xs.length - 1) 0] := by
    rw [← take_succ' (by omega), show xs.length - 1 + 1 = xs.length by omega, List.take_length]
  have hne : xs.getD (xs.length - 1) 0 ≠ 0 := by
    intro hz
    rw [hz] at e
    have e2 : trim xs = trim (xs.take (xs.length - 1)) := by
      conv => lhs; rw [e]
      exact trim_snoc_zero _
    have := trim_len (xs.take (xs.length - 1))
    rw [← e2, t, List.length_take] at this
    omega
  have hb := okL_get h (xs.length - 1)
  have hv : val xs = val (xs.take (xs.length - 1)) + 65536 ^ (xs.length - 1) * xs.getD (xs.length - 1) 0 := by
    rw [← val_take_succ, show xs.length - 1 + 1 = xs.length by omega, List.take_length]
  have hp := val_nonneg (okL_take h (xs.length - 1))
  have hq : (0 : Int) < 65536 ^ (xs.length - 1) := Int.pow_pos (by omega)
  have : (65536 : Int) ^ (xs.length - 1) * 1 ≤ 65536 ^ (xs.length - 1) * xs.getD (xs.length - 1) 0 := Int.mul_le_mul_of_nonneg_left (by omega) (by omega)
  omega
theorem pow_mono {a b : Nat} (h : a ≤ b) : (65536 : Int) ^ a ≤ 65536 ^ b := by
  have : (65536 : Nat) ^ a ≤ 65536 ^ b := Nat.pow_le_pow_right (by omega) h
  have e1 : ((65536 ^ a : Nat) : Int) = (65536 : Int) ^ a := by simp
  have e2 : ((65536 ^ b : Nat) : Int) = (65536 : Int) ^ b := by simp
  omega
theorem val_lt_of_len {xs ys : List Int} (hx : okL xs) (hy : okL ys) (t : trim ys = ys) (h : xs.length < ys.length) : val xs < val ys := by
  have h1 := val_lt hx
  have h2 := top_le hy t (by omega)
  have h3 := pow_mono (show xs.length ≤ ys.length - 1 by omega)
  omega
theorem len_of_val {xs ys : List Int} (hx : okL xs) (hy : okL ys) (t : trim ys = ys) (h : val ys ≤ val xs) : ys.length ≤ xs.length := by
  by_cases hl : xs.length < ys.length
  · have := val_lt_of_len hx hy t hl; omega
  · omega
theorem cmpTop_val {xs ys : List Int} (hx : okL xs) (hy : okL ys) (k : Nat) : (cmpTop xs ys k < 0 ↔ val (xs.take k) < val (ys.take k)) ∧ (0 < cmpTop xs ys k ↔ val (ys.take k) < val (xs.take k)) := by
  induction k with
  | zero => simp [cmpTop, val]
  | succ k ih =>
    have b1 := okL_get hx k
    have b2 := okL_get hy k
    have a1 := val_nonneg (okL_take hx k)
    have a2 := val_nonneg (okL_take hy k)
    have l1 := val_lt (okL_take hx k)
    have l2 := val_lt (okL_take hy k)
    have m1 : (65536 : Int) ^ (xs.take k).length ≤ 65536 ^ k := pow_mono (by rw [List.length_take]; omega)
    have m2 : (65536 : Int) ^ (ys.take k).length ≤ 65536 ^ k := pow_mono (by rw [List.length_take]; omega)
    have hp : (0 : Int) < 65536 ^ k := Int.pow_pos (by omega)
    rw [val_take_succ, val_take_succ]
    by_cases h1 : xs.getD k 0 < ys.getD k 0
    · rw [cmpTop_lt h1]
      have : (65536 : Int) ^ k * (xs.getD k 0 + 1) ≤ 65536 ^ k * ys.getD k 0 := Int.mul_le_mul_of_nonneg_left (by omega) (by omega)
      rw [Int.mul_add] at this
      omega
    · by_cases h2 : ys.getD k 0 < xs.getD k 0
      · rw [cmpTop_gt h2]
        have : (65536 : Int) ^ k * (ys.getD k 0 + 1) ≤ 65536 ^ k * xs.getD k 0 := Int.mul_le_mul_of_nonneg_left (by omega) (by omega)
        rw [Int.mul_add] at this
        omega
      · rw [cmpTop_eq h1 h2]
        have e : xs.getD k 0 = ys.getD k 0 := by omega
        rw [e]
        omega
theorem cmpL_val {xs ys : List Int} (hx : okL xs) (hy : okL ys) (tx : trim xs = xs) (ty : trim ys = ys) : (cmpL xs ys < 0 ↔ val xs < val ys) ∧ (0 < cmpL xs ys ↔ val ys < val xs) := by
  unfold cmpL
  by_cases h1 : xs.length < ys.length
  · rw [if_pos h1]; have := val_lt_of_len hx hy ty h1; omega
  · rw [if_neg h1]
    by_cases h2 : ys.length < xs.length
    · rw [if_pos h2]; have := val_lt_of_len hy hx tx h2; omega
    · rw [if_neg h2]
      have := cmpTop_val hx hy xs.length
      rw [List.take_length, show xs.length = ys.length by omega, List.take_length] at this
      rw [show xs.length = ys.length by omega]
      exact this

theorem sgn_val {g : Bool} {zs : List Int} {U : Int} (h : Nm zs U) : sgn g zs = decide ((if g then -U else U) < 0) := by
  have h0 := h.nonneg
  cases g
  · simp [sgn]; omega
  · by_cases e : zs = []
    · have := h.nil_iff.1 e
      subst e; subst this; rfl
    · have h1 : U ≠ 0 := fun hu => e (h.nil_iff.2 hu)
      have h2 : 0 < zs.length := List.length_pos_iff.2 e
      simp [sgn, h2]; omega

/-- A call answers a number V with its sign, in memory of its own. -/
def OutB (w : World) (V : Int) (e : Ending) (w' : World) : Prop :=
  ∃ a n c zs, e = .returned (.agg #[.bool (decide (V < 0)), .slice a n c]) ∧ Below w.heap.size w w' ∧ Own w.heap.size w' a zs ∧ Arg w' a n c zs ∧ Nm zs V.natAbs
theorem natAbs_sign {U V : Int} {g : Bool} (h0 : 0 ≤ U) (hV : V = if g then -U else U) : (V.natAbs : Int) = U := by
  cases g
  · simp at hV; omega
  · simp at hV; omega
end Go.Proofs.YtdgonpbponnnaaaGreatDoor
