/- Whole numbers as fractions: the program's and the specification's; spans that have 0 within. No condition beyond those typed. Written by mkwhole.py. -/
import Derived.Test.YtdgonpbponnnaaaGreatDoorPointS
import Derived.Test.YtdgonpbponnnaaaGreatDoorInSp
import Derived.Test.YtdgonpbponnnaaaGreatDoorSpanM
namespace Go.Proofs.YtdgonpbponnnaaaGreatDoor
open Go.RowKit
set_option linter.unusedVariables false
set_option maxRecDepth 100000
set_option linter.unusedSimpArgs false

/-- Whether a span has 0 within, as the program asks. -/
def hN (d : SD) : Bool := (d.lo.num.g || decide (d.lo.num.xs.length = 0)) && !d.hi.num.g
def zQD : QD := ⟨⟨false, []⟩, ⟨false, [1]⟩⟩
theorem zQD_n : nQ zQD = 0 := by decide
theorem zQD_d : dQ zQD = 1 := by decide
theorem isGood_zero {w : World} {q : QV} (h : IsQ w q 0 1) : IsGood w q zQD := by
  refine ⟨by rw [zQD_n, zQD_d]; exact h, ?_, ?_, by rw [zQD_d]; omega, by rw [zQD_n, zQD_d]; rfl⟩
  · rw [zQD_n]; exact ⟨by decide⟩
  · rw [zQD_d]; exact ⟨by decide⟩
/-- A good number is below 0 where its sign says so, 0 without limbs. -/
theorem goodB_neg {g : Bool} {xs : List Int} (h : goodB g xs = true) : (sv g xs < 0 ↔ g = true) ∧ (sv g xs = 0 ↔ xs.length = 0) := by
  obtain ⟨h1, h2, h3, h4⟩ := good_parts h
  have hv := val_nonneg h1
  have hz := val_zero_iff h1 h2
  have hl : xs = [] ↔ xs.length = 0 := List.length_eq_zero_iff.symm
  unfold sv
  cases g
  · rw [if_neg (by simp)]
    exact ⟨⟨fun e => by omega, fun e => by cases e⟩, hz.trans hl⟩
  · rw [if_pos rfl]
    have h5 : xs ≠ [] := fun e => by cases h4 e
    have h6 : val xs ≠ 0 := fun e => h5 (hz.1 e)
    exact ⟨⟨fun _ => rfl, fun _ => by omega⟩, ⟨fun e => by omega, fun e => absurd (hl.2 e) h5⟩⟩
theorem goodS_nums {d : SD} (hg : gS d = true) : goodB d.lo.num.g d.lo.num.xs = true ∧ goodB d.hi.num.g d.hi.num.xs = true := by
  unfold gS at hg
  simp only [Bool.and_eq_true, decide_eq_true_eq] at hg
  exact ⟨(goodR_parts hg.1.1).1, (goodR_parts hg.1.2).1⟩
theorem hN_iff {d : SD} (hg : gS d = true) : hN d = true ↔ (nQ d.lo ≤ 0 ∧ 0 ≤ nQ d.hi) := by
  obtain ⟨g1, g2⟩ := goodS_nums hg
  have a := goodB_neg g1
  have b := goodB_neg g2
  unfold hN nQ
  generalize sv d.lo.num.g d.lo.num.xs = x at *
  generalize sv d.hi.num.g d.hi.num.xs = y at *
  rw [Bool.and_eq_true, Bool.or_eq_true, decide_eq_true_eq, ← a.1, ← a.2]
  refine and_congr (by omega) ?_
  cases hh : d.hi.num.g
  · refine ⟨fun _ => ?_, fun _ => rfl⟩
    have : ¬ y < 0 := fun e => by have := b.1.1 e; rw [hh] at this; cases this
    omega
  · refine ⟨fun e => (by cases e), fun e => ?_⟩
    have := b.1.2 hh
    omega
theorem inQ_zero {d : SD} (hg : gS d = true) : inQ d zQD = hN d := by
  have h := hN_iff hg
  have e : inQ d zQD = true ↔ (nQ d.lo ≤ 0 ∧ 0 ≤ nQ d.hi) := by
    unfold inQ
    rw [zQD_n, zQD_d, Bool.and_eq_true, decide_eq_true_eq, decide_eq_true_eq, Int.mul_one, Int.mul_one, Int.zero_mul, Int.zero_mul]
  exact Bool.eq_iff_iff.2 (e.trans h.symm)
end Go.Proofs.YtdgonpbponnnaaaGreatDoor
