/- l8Simple of the specification. No condition beyond those typed. Written by mksims8.py. -/
import Derived.Test.YteconjkjpalomaaSim8
namespace Go.Proofs.Yteconjkjpalomaa
open Go.RowKit
set_option linter.unusedVariables false
set_option maxRecDepth 100000
set_option linter.unusedSimpArgs false

theorem eql_ne8 {p q : Int × Int} (h : ¬ p = q) (w : World) : (binOp .eql 25 (.agg #[.int .i64 p.1, .int .i64 p.2]) (.agg #[.int .i64 q.1, .int .i64 q.2])).run Try.prog w = .ok (.bool false) w := by
  rcases ne_pt h with h1 | ⟨h1, h2⟩
  · go_simp
  · go_simp
def RowOk (l : List (Int × Int)) (i : Nat) : Prop := l.getD i (0, 0) ≠ nxt l i ∧ onV (nxt l i) (nxt l (i + 1)) (l.getD i (0, 0)) = false ∧ onV (l.getD i (0, 0)) (nxt l i) (nxt l (i + 1)) = false
def PairOk (l : List (Int × Int)) (i k : Nat) : Prop := (k + 1) % l.length ≠ i → meV (l.getD i (0, 0)) (nxt l i) (l.getD k (0, 0)) (nxt l k) = false
def SimP (l : List (Int × Int)) (m : Nat) : Prop := ∀ i, i < m → RowOk l i ∧ ∀ k, i + 2 ≤ k → k < l.length → PairOk l i k
noncomputable def siS (l : List (Int × Int)) : Bool := @decide (SimP l l.length) (Classical.propDecidable _)
theorem siS_true {l : List (Int × Int)} (k : SimP l l.length) : siS l = true := by unfold siS; exact @decide_eq_true _ (Classical.propDecidable _) k
theorem siS_false {l : List (Int × Int)} (k : ¬ SimP l l.length) : siS l = false := by unfold siS; exact @decide_eq_false _ (Classical.propDecidable _) k
end Go.Proofs.Yteconjkjpalomaa
