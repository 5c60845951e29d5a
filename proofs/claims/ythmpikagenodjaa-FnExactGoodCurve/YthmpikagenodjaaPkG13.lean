/- AddRat, SubRat, MulRat and DivRat: the program's and the specification's, at every two fractions. No condition beyond those typed. Written by mkratf.py. -/
import Derived.Test.YthmpikagenodjaaPkF13
import Derived.Test.YthmpikagenodjaaRatC
namespace Go.Proofs.Ythmpikagenodjaa
open Go.RowKit
set_option linter.unusedVariables false
set_option maxRecDepth 100000
set_option linter.unusedSimpArgs false

end Go.Proofs.Ythmpikagenodjaa
namespace Go.Proofs.Ythmpikagenodjaa
open Go.RowKit
set_option linter.unusedVariables false
set_option maxRecDepth 100000
set_option linter.unusedSimpArgs false

end Go.Proofs.Ythmpikagenodjaa
namespace Go.Proofs.Ythmpikagenodjaa
open Go.RowKit
set_option linter.unusedVariables false
set_option maxRecDepth 100000
set_option linter.unusedSimpArgs false

/-- The answer N / D, where both fit; otherwise, and where P does not hold, the zero answer. -/
def AnsQ (P : Bool) (N D : Int) (d : QD) (ok : Bool) : Prop :=
  (P = true ∧ ∃ zs us, Nm zs N.natAbs ∧ Nm us D.natAbs ∧ ((zs.length ≤ 40 ∧ us.length ≤ 40 ∧ ok = true ∧ d = ⟨⟨decide (N < 0), zs⟩, ⟨decide (D < 0), us⟩⟩) ∨ (¬ (zs.length ≤ 40 ∧ us.length ≤ 40) ∧ ok = false ∧ d = (⟨⟨false, []⟩, ⟨false, []⟩⟩ : QD)))) ∨ (P = false ∧ ok = false ∧ d = (⟨⟨false, []⟩, ⟨false, []⟩⟩ : QD))
theorem AnsQ.same {P : Bool} {N D : Int} {d d' : QD} {ok ok' : Bool} (h : AnsQ P N D d ok) (k : AnsQ P N D d' ok') : d = d' ∧ ok = ok' := by
  rcases h with ⟨p, zs, us, h1, h2, h3⟩ | ⟨p, h1, h2⟩ <;> rcases k with ⟨p', zs', us', k1, k2, k3⟩ | ⟨p', k1, k2⟩
  · obtain rfl := h1.same k1
    obtain rfl := h2.same k2
    rcases h3 with ⟨a, b, c, e⟩ | ⟨a, c, e⟩ <;> rcases k3 with ⟨a', b', c', e'⟩ | ⟨a', c', e'⟩
    · exact ⟨e.trans e'.symm, c.trans c'.symm⟩
    · exact absurd ⟨a, b⟩ a'
    · exact absurd ⟨a', b'⟩ a
    · exact ⟨e.trans e'.symm, c.trans c'.symm⟩
  · rw [p] at p'; cases p'
  · rw [p] at p'; cases p'
  · exact ⟨h2.trans k2.symm, h1.trans k1.symm⟩
set_option maxHeartbeats 1000000 in
theorem inL (q : QV) (m : Nat) (w : World) : Calls Try.prog 56 #[.agg #[.bool q.num.g, .slice q.num.a q.num.n q.num.c, .bool q.den.g, .slice q.den.a q.den.n q.den.c], .int .i64 (m : Nat)] w fun e w' => e = .returned (.bool (decide (q.num.n ≤ m) && decide (q.den.n ≤ m))) ∧ Below w.heap.size w w' := by
  have HB := hide (show ∀ o, Below w.heap.size w (w.alloc o) from fun o => (Below.refl _ _).alloc (Nat.le_refl _) _)
  by_cases c1 : q.num.n ≤ m
  · by_cases c2 : q.den.n ≤ m
    · rw [decide_eq_true c1, decide_eq_true c2]
      have b1 : (q.num.n : Int) ≤ (m : Int) := by omega
      have b2 : (q.den.n : Int) ≤ (m : Int) := by omega
      go_enter Try.func56, Try.ntmps56
      go_wp2
      go_ret
      exact ⟨rfl, unhide HB _⟩
    · rw [decide_eq_true c1, decide_eq_false c2]
      have b1 : (q.num.n : Int) ≤ (m : Int) := by omega
      have b2 : ¬ ((q.den.n : Int) ≤ (m : Int)) := by omega
      go_enter Try.func56, Try.ntmps56
      go_wp2
      go_ret
      exact ⟨rfl, unhide HB _⟩
  · rw [decide_eq_false c1]
    have b1 : ¬ ((q.num.n : Int) ≤ (m : Int)) := by omega
    go_enter Try.func56, Try.ntmps56
    go_wp2
    go_ret
    exact ⟨by simp, unhide HB _⟩
def gQ (d : QD) : Bool := goodR d.num.g d.num.xs d.den.g d.den.xs
def nQ (d : QD) : Int := sv d.num.g d.num.xs
def dQ (d : QD) : Int := sv d.den.g d.den.xs
theorem goodQI (q : QV) (d : QD) (w : World) (h : AllAr w [(q.num, d.num), (q.den, d.den)]) : Calls Try.prog 57 #[.agg #[.bool q.num.g, .slice q.num.a q.num.n q.num.c, .bool q.den.g, .slice q.den.a q.den.n q.den.c]] w fun e w' => e = .returned (.bool (gQ d)) ∧ Below w.heap.size w w' := by
  have := goodRI_any ⟨q.num.g, q.num.a, q.num.n, q.num.c, q.den.g, q.den.a, q.den.n, q.den.c⟩ d.num.xs d.den.xs w h.head.ar h.tail.head.ar
  simp only at this
  rw [h.head.sg, h.tail.head.sg] at this
  rw [h.head.sg, h.tail.head.sg]
  exact this
theorem goodQS (q : QV) (d : QD) (w : World) (h : AllAr w [(q.num, d.num), (q.den, d.den)]) : Calls Try.prog 54 #[.agg #[.bool q.num.g, .slice q.num.a q.num.n q.num.c, .bool q.den.g, .slice q.den.a q.den.n q.den.c]] w fun e w' => e = .returned (.bool (gQ d)) ∧ Below w.heap.size w w' := by
  have := goodRS_any ⟨q.num.g, q.num.a, q.num.n, q.num.c, q.den.g, q.den.a, q.den.n, q.den.c⟩ d.num.xs d.den.xs w h.head.ar h.tail.head.ar
  simp only at this
  rw [h.head.sg, h.tail.head.sg] at this
  rw [h.head.sg, h.tail.head.sg]
  exact this
/-- A good fraction reads as what it says; its denominator is above 0. -/
structure IsGood (w : World) (q : QV) (d : QD) : Prop where
  is : IsQ w q (nQ d) (dQ d)
  kn : Bd (nQ d) 40
  kd : Bd (dQ d) 40
  pos : 0 < dQ d
  low : Nat.gcd (nQ d).natAbs (dQ d).natAbs = 1
theorem IsGood.later {w w' : World} {q : QV} {d : QD} (h : IsGood w q d) (hb : Below w.heap.size w w') : IsGood w' q d := ⟨h.is.later hb, h.kn, h.kd, h.pos, h.low⟩

end Go.Proofs.Ythmpikagenodjaa
