/- The specification's l2Make: a fraction in lowest terms. No condition beyond those typed. Written by mklow2.py. -/
import Derived.Test.YtokajpeopijneaaLow
namespace Go.Proofs.Ytokajpeopijneaa
open Go.RowKit
set_option linter.unusedVariables false
set_option maxRecDepth 100000
set_option linter.unusedSimpArgs false

theorem quot_g (N D X : Int) (hD : D ≠ 0) : sU (!(decide (X < 0) == decide (((Nat.gcd N.natAbs D.natAbs : Nat) : Int) < 0))) ((X.natAbs : Int) / ((((Nat.gcd N.natAbs D.natAbs : Nat) : Int)).natAbs : Int)) = sU (decide (X < 0)) ((X.natAbs : Int) / ((Nat.gcd N.natAbs D.natAbs : Nat) : Int)) := by
  have : decide (((Nat.gcd N.natAbs D.natAbs : Nat) : Int) < 0) = false := decide_eq_false (by omega)
  rw [this, Int.natAbs_natCast]
  cases decide (X < 0) <;> rfl
theorem low_neg {N D : Int} (h : D < 0) : -(sU (decide (N < 0)) (lowU N D)) = lowN N D ∧ -(sU (decide (D < 0)) (lowD N D)) = lowD N D := by
  unfold lowN sU
  rw [decide_eq_true h]
  refine ⟨?_, by simp⟩
  cases decide (N < 0) <;> simp
theorem low_pos {N D : Int} (h : 0 ≤ D) : sU (decide (N < 0)) (lowU N D) = lowN N D ∧ sU (decide (D < 0)) (lowD N D) = lowD N D := by
  unfold lowN sU
  rw [decide_eq_false (show ¬ D < 0 by omega)]
  refine ⟨?_, by simp⟩
  cases decide (N < 0) <;> simp
theorem outQv_fin {w wN W : World} {R : Nat} {q : QV} {N D : Int} (hR : w.heap.size ≤ R) (hb : Below w.heap.size w wN) (bt : But R (R + 1) wN W)
    (h1 : Ow (R + 1) wN.heap.size wN q.num N) (h2 : Ow (R + 1) wN.heap.size wN q.den D) : OutQv w N D (.returned (.agg #[.bool q.num.g, .slice q.num.a q.num.n q.num.c, .bool q.den.g, .slice q.den.a q.den.n q.den.c])) W :=
  ⟨q, rfl, bt.below hb hR hb.size, (h1.but bt (.inr (Nat.le_refl _))).wide (by omega) bt.size, (h2.but bt (.inr (Nat.le_refl _))).wide (by omega) bt.size⟩

end Go.Proofs.Ytokajpeopijneaa
