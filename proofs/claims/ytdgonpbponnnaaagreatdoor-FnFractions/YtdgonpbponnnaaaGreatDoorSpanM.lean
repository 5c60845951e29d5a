/- Fractions in lowest terms are told by their value, and their order is that of what they were made of. No condition beyond those typed. -/
import Derived.Test.YtdgonpbponnnaaaGreatDoorLeastN
namespace Go.Proofs.YtdgonpbponnnaaaGreatDoor
open Go.RowKit
set_option linter.unusedVariables false
set_option maxRecDepth 100000
set_option linter.unusedSimpArgs false

/-- In lowest terms, the denominator above 0. -/
structure Low (N D : Int) : Prop where
  pos : 0 < D
  co : Nat.gcd N.natAbs D.natAbs = 1
theorem Low.same {N D N' D' : Int} (h : Low N D) (k : Low N' D') (e : N * D' = N' * D) : N = N' ∧ D = D' := by
  have h1 : D.natAbs ∣ D'.natAbs := by
    have : D.natAbs ∣ N.natAbs * D'.natAbs := by rw [← Int.natAbs_mul, e, Int.natAbs_mul]; exact Nat.dvd_mul_left _ _
    exact Nat.Coprime.dvd_of_dvd_mul_left (by rw [Nat.Coprime, Nat.gcd_comm]; exact h.co) this
  have h2 : D'.natAbs ∣ D.natAbs := by
    have : D'.natAbs ∣ N'.natAbs * D.natAbs := by rw [← Int.natAbs_mul, ← e, Int.natAbs_mul]; exact Nat.dvd_mul_left _ _
    exact Nat.Coprime.dvd_of_dvd_mul_left (by rw [Nat.Coprime, Nat.gcd_comm]; exact k.co) this
  have h3 : D.natAbs = D'.natAbs := Nat.dvd_antisymm h1 h2
  have hp := h.pos
  have kp := k.pos
  have h4 : D = D' := by omega
  subst h4
  exact ⟨Int.eq_of_mul_eq_mul_right (by omega) e, rfl⟩
theorem low_low {N D : Int} (h : D ≠ 0) : Low (lowN N D) (lowD N D) := by
  refine ⟨lowD_pos h, ?_⟩
  have hg := gcd_pos_right (N := N) h
  have e1 : (lowN N D).natAbs = N.natAbs / Nat.gcd N.natAbs D.natAbs := by
    have h1 := lowN_abs N D
    unfold lowU at h1
    rw [← Int.natCast_ediv] at h1
    exact_mod_cast h1
  have e2 : (lowD N D).natAbs = D.natAbs / Nat.gcd N.natAbs D.natAbs := by
    have h1 := lowD_abs N D
    unfold lowD at h1 ⊢
    rw [← Int.natCast_ediv, Int.natAbs_natCast]
  rw [e1, e2]
  exact Nat.gcd_div_gcd_div_gcd_of_pos_right (by omega)
theorem low_cross {N D : Int} (h : 0 < D) : lowN N D * D = N * lowD N D := by
  have hg := gcd_pos_right (N := N) (show D ≠ 0 by omega)
  have d1 : ((Nat.gcd N.natAbs D.natAbs : Nat) : Int) ∣ (N.natAbs : Int) := by exact_mod_cast Nat.gcd_dvd_left _ _
  have d2 : ((Nat.gcd N.natAbs D.natAbs : Nat) : Int) ∣ (D.natAbs : Int) := by exact_mod_cast Nat.gcd_dvd_right _ _
  have m1 := Int.ediv_mul_cancel d1
  have m2 := Int.ediv_mul_cancel d2
  unfold lowN lowD lowU sU
  generalize (N.natAbs : Int) / ((Nat.gcd N.natAbs D.natAbs : Nat) : Int) = a at *
  generalize (D.natAbs : Int) / ((Nat.gcd N.natAbs D.natAbs : Nat) : Int) = b at *
  generalize ((Nat.gcd N.natAbs D.natAbs : Nat) : Int) = g at *
  rw [decide_eq_false (show ¬ D < 0 by omega)]
  have hD : D = b * g := by omega
  by_cases c : N < 0
  · have hN : N = -(a * g) := by omega
    rw [decide_eq_true c, if_pos (by rfl), hN, hD]
    simp only [Int.neg_mul, Int.mul_neg, Int.mul_comm, Int.mul_left_comm]
  · have hN : N = a * g := by omega
    rw [decide_eq_false c, if_neg (by simp), hN, hD]
    simp only [Int.mul_comm, Int.mul_left_comm]
theorem low_le {N D N' D' : Int} (h : 0 < D) (h' : 0 < D') (k : N * D' ≤ N' * D) : lowN N D * lowD N' D' ≤ lowN N' D' * lowD N D := by
  have c1 := low_cross (N := N) h
  have c2 := low_cross (N := N') h'
  have p1 := lowD_pos (N := N) (show D ≠ 0 by omega)
  have p2 := lowD_pos (N := N') (show D' ≠ 0 by omega)
  generalize lowN N D = n1 at *
  generalize lowN N' D' = n2 at *
  generalize lowD N D = d1 at *
  generalize lowD N' D' = d2 at *
  have hp : 0 < D * D' := Int.mul_pos h h'
  refine Int.le_of_mul_le_mul_right (a := D * D') ?_ hp
  have e1 : n1 * d2 * (D * D') = (N * D') * (d1 * d2) := by
    have : n1 * d2 * (D * D') = (n1 * D) * (d2 * D') := by simp only [Int.mul_comm, Int.mul_left_comm, Int.mul_assoc]
    rw [this, c1]; simp only [Int.mul_comm, Int.mul_left_comm, Int.mul_assoc]
  have e2 : n2 * d1 * (D * D') = (N' * D) * (d1 * d2) := by
    have : n2 * d1 * (D * D') = (n2 * D') * (d1 * D) := by simp only [Int.mul_comm, Int.mul_left_comm, Int.mul_assoc]
    rw [this, c2]; simp only [Int.mul_comm, Int.mul_left_comm, Int.mul_assoc]
  rw [e1, e2]
  exact Int.mul_le_mul_of_nonneg_right k (Int.le_of_lt (Int.mul_pos p1 p2))
theorem least_two {x y : RQ} (hx : Low x.N x.D) (hy : Low y.N y.D) (h : x.N * y.D ≤ y.N * x.D) : ((stLo x y).N = x.N ∧ (stLo x y).D = x.D) ∧ ((stHi x y).N = y.N ∧ (stHi x y).D = y.D) := by
  unfold stLo stHi
  rw [if_neg (by omega)]
  refine ⟨⟨rfl, rfl⟩, ?_⟩
  by_cases c : x.N * y.D < y.N * x.D
  · rw [if_pos c]; exact ⟨rfl, rfl⟩
  · rw [if_neg c]; exact hx.same hy (by omega)
theorem add_le {a b c d e f g k : Int} (h1 : a * d ≤ c * b) (h2 : e * k ≤ g * f) (hb : 0 < b) (hd : 0 < d) (hf : 0 < f) (hk : 0 < k) : (a * f + e * b) * (d * k) ≤ (c * k + g * d) * (b * f) := by
  have m1 := Int.mul_le_mul_of_nonneg_right h1 (Int.le_of_lt (Int.mul_pos hf hk))
  have m2 := Int.mul_le_mul_of_nonneg_right h2 (Int.le_of_lt (Int.mul_pos hb hd))
  have e1 : (a * f + e * b) * (d * k) = a * d * (f * k) + e * k * (b * d) := by simp only [Int.add_mul, Int.mul_add, Int.mul_comm, Int.mul_left_comm, Int.mul_assoc]
  have e2 : (c * k + g * d) * (b * f) = c * b * (f * k) + g * f * (b * d) := by simp only [Int.add_mul, Int.mul_add, Int.mul_comm, Int.mul_left_comm, Int.mul_assoc]
  rw [e1, e2]
  omega
theorem sub_le {a b c d e f g k : Int} (h1 : a * d ≤ c * b) (h2 : e * k ≤ g * f) (hb : 0 < b) (hd : 0 < d) (hf : 0 < f) (hk : 0 < k) : (a * k - g * b) * (d * f) ≤ (c * f - e * d) * (b * k) := by
  have m1 := Int.mul_le_mul_of_nonneg_right h1 (Int.le_of_lt (Int.mul_pos hf hk))
  have m2 := Int.mul_le_mul_of_nonneg_right h2 (Int.le_of_lt (Int.mul_pos hb hd))
  have e1 : (a * k - g * b) * (d * f) = a * d * (f * k) - g * f * (b * d) := by simp only [Int.sub_mul, Int.mul_sub, Int.mul_comm, Int.mul_left_comm, Int.mul_assoc]
  have e2 : (c * f - e * d) * (b * k) = c * b * (f * k) - e * k * (b * d) := by simp only [Int.sub_mul, Int.mul_sub, Int.mul_comm, Int.mul_left_comm, Int.mul_assoc]
  rw [e1, e2]
  omega
/-- A slice of one fraction that the program has just made. -/
theorem rats_one {w : World} {r : RQ} {t : TypeId} (h : RQ.Is w r) : Rats (w.alloc (.cells #[.bool r.q.num.g, .slice r.q.num.a r.q.num.n r.q.num.c, .bool r.q.den.g, .slice r.q.den.a r.q.den.n r.q.den.c] t)) w.heap.size 0 [r] := by
  refine ⟨fun i hi => ?_, fun i hi => ?_, by simp⟩
  · obtain rfl : i = 0 := by simp at hi; omega
    simp [go_sem]
  · obtain rfl : i = 0 := by simp at hi; omega
    exact ⟨h.is.later ((Below.refl _ _).alloc (Nat.le_refl _) _), h.kn, h.kd⟩
end Go.Proofs.YtdgonpbponnnaaaGreatDoor
