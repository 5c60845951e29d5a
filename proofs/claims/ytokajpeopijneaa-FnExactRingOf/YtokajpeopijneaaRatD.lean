/- CompareRat: the program's and the specification's, at every two fractions. No condition beyond those typed. Written by mkratd.py. -/
import Derived.Test.YtokajpeopijneaaRatC
namespace Go.Proofs.Ytokajpeopijneaa
open Go.RowKit
set_option linter.unusedVariables false
set_option maxRecDepth 100000
set_option linter.unusedSimpArgs false

/-- What CompareRat answers: the order of A and B, where both are good. -/
def OutK (w : World) (P : Bool) (A B : Int) (e : Ending) (w' : World) : Prop :=
  Below w.heap.size w w' ∧ ((P = true ∧ ∃ ts us, Nm ts A.natAbs ∧ Nm us B.natAbs ∧ e = .returned (.tuple #[.int .i64 (cmpB (decide (A < 0)) ts (decide (B < 0)) us), .bool true])) ∨ (P = false ∧ e = .returned (.tuple #[.int .i64 0, .bool false])))
theorem goodR_parts {g h : Bool} {xs us : List Int} (k : goodR g xs h us = true) : goodB g xs = true ∧ goodB h us = true := by
  unfold goodR at k
  rw [Bool.and_eq_true, Bool.and_eq_true] at k
  exact k.1
theorem good_len {w : World} {g : Bool} {a : Option Addr} {n c : Nat} {xs : List Int} (ha : Arg w a n c xs) (h : goodB g xs = true) : n ≤ 40 := by rw [← ha.len]; exact (good_parts h).2.2.1

end Go.Proofs.Ytokajpeopijneaa
