/- Arguments made of numbers, as they came in: signs and slices of integers that lie in memory. No condition. -/
import Derived.Test.YthmpikagenodjaaGreatOpenR
import Derived.Test.YthmpikagenodjaaGreatFlat
namespace Go.Proofs.YthmpikagenodjaaGreat
open Go.ChangeShapes Go.WideShapes Go.ChangeAt Go.RowKit Go.Joins
set_option linter.unusedVariables false
set_option maxRecDepth 100000
set_option linter.unusedSimpArgs false

theorem open_Q {H : Type} {enc : TypeId × Value → H} {W : World} {r : Reach} {b0 : Nat} {v : Value} {d : DataW H} {p : List MemPlace}
    (hv : Value.okWide Tryz.prog W r b0 56 v) (h : DataW.Trod enc Tryz.prog W 0 (fun _ => true) true 56 v d p) :
    ∃ (q : QV) (e : QD), v = .agg #[.bool q.num.g, .slice q.num.a q.num.n q.num.c, .bool q.den.g, .slice q.den.a q.den.n q.den.c] ∧ AllSl W [(q.num, e.num), (q.den, e.den)] ∧ q.num.n ≤ maxLen ∧ q.den.n ≤ maxLen := by
  obtain ⟨g, a, n, c, xs, g', b, q, e, us, rfl, ⟨hx, hn, hm⟩, ⟨hu, hq, hk⟩⟩ := open_rat hv h
  exact ⟨⟨⟨g, a, n, c⟩, ⟨g', b, q, e⟩⟩, ⟨⟨g, xs⟩, ⟨g', us⟩⟩, rfl, AllSl.cons ⟨rfl, hx, hn⟩ (AllSl.cons ⟨rfl, hu, hq⟩ (AllSl.nil _)), hm, hk⟩
end Go.Proofs.YthmpikagenodjaaGreat
