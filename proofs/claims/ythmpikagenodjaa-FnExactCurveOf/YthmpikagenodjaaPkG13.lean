/- AddRat, SubRat, MulRat and DivRat: the program's and the specification's, at every two fractions. No condition beyond those typed. Written by mkratf.py. -/
import Derived.Test.YthmpikagenodjaaPkF13
import Derived.Test.YthmpikagenodjaaRatC
namespace Go.Proofs.Ythmpikagenodjaa
open Go.RowKit
set_option linter.unusedVariables false
set_option maxRecDepth 100000
set_option linter.unusedSimpArgs false

end Go.Proofs.Ythmpikagenodjaa
namespace Go.Proofs.Ythmpikagenodjaa
open Go.RowKit
set_option linter.unusedVariables false
set_option maxRecDepth 100000
set_option linter.unusedSimpArgs false

end Go.Proofs.Ythmpikagenodjaa
namespace Go.Proofs.Ythmpikagenodjaa
open Go.RowKit
set_option linter.unusedVariables false
set_option maxRecDepth 100000
set_option linter.unusedSimpArgs false

/-- The answer N / D, where both fit; otherwise, and where P does not hold, the zero answer. -/
def AnsQ (P : Bool) (N D : Int) (d : QD) (ok : Bool) : Prop :=
  (P = true ∧ ∃ zs us, Nm zs N.natAbs ∧ Nm us D.natAbs ∧ ((zs.length ≤ 40 ∧ us.length ≤ 40 ∧ ok = true ∧ d = ⟨⟨decide (N < 0), zs⟩, ⟨decide (D < 0), us⟩⟩) ∨ (¬ (zs.length ≤ 40 ∧ us.length ≤ 40) ∧ ok = false ∧ d = (⟨⟨false, []⟩, ⟨false, []⟩⟩ : QD)))) ∨ (P = false ∧ ok = false ∧ d = (⟨⟨false, []⟩, ⟨false, []⟩⟩ : QD))
theorem AnsQ.same {P : Bool} {N D : Int} {d d' : QD} {ok ok' : Bool} (h : AnsQ P N D d ok) (k : AnsQ P N D d' ok') : d = d' ∧ ok = ok' := by
  rcases h with ⟨p, zs, us, h1, h2, h3⟩ | ⟨p, h1, h2⟩ <;> rcases k with ⟨p', zs', us', k1, k2, k3⟩ | ⟨p', k1, k2⟩
  · obtain rfl := h1.same k1
    obtain rfl := h2.same k2
    rcases h3 with ⟨a, b, c, e⟩ | ⟨a, c, e⟩ <;> rcases k3 with ⟨a', b', c', e'⟩ | ⟨a', c', e'⟩
    · exact ⟨e.trans e'.symm, c.trans c'.symm⟩
    · exact absurd ⟨a, b⟩ a'
    · exact absurd ⟨a', b'⟩ a
    · exact ⟨e.trans e'.symm, c.trans c'.symm⟩
  · rw [p] at p'; cases p'
  · rw [p] at p'; cases p'
  · exact ⟨h2.trans k2.symm, h1.trans k1.symm⟩
theorem AnsQ.lens {P : Bool} {N D : Int} {d : QD} {ok : Bool} (h : AnsQ P N D d ok) : d.num.xs.length ≤ 40 ∧ d.den.xs.length ≤ 40 := by
  rcases h with ⟨p, zs, us, h1, h2, ⟨a, b, c, rfl⟩ | ⟨a, c, rfl⟩⟩ | ⟨p, h1, rfl⟩
  · exact ⟨a, b⟩
  · exact ⟨by simp, by simp⟩
  · exact ⟨by simp, by simp⟩
def nQ (d : QD) : Int := sv d.num.g d.num.xs
def dQ (d : QD) : Int := sv d.den.g d.den.xs
/-- A good fraction reads as what it says; its denominator is above 0. -/
structure IsGood (w : World) (q : QV) (d : QD) : Prop where
  is : IsQ w q (nQ d) (dQ d)
  kn : Bd (nQ d) 40
  kd : Bd (dQ d) 40
  pos : 0 < dQ d
  low : Nat.gcd (nQ d).natAbs (dQ d).natAbs = 1
theorem IsGood.later {w w' : World} {q : QV} {d : QD} (h : IsGood w q d) (hb : Below w.heap.size w w') : IsGood w' q d := ⟨h.is.later hb, h.kn, h.kd, h.pos, h.low⟩

end Go.Proofs.Ythmpikagenodjaa
