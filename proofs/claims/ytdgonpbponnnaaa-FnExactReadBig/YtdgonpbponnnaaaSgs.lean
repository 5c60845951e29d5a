/- Differences of numbers with signs: the program's subSigned, the specification's l1Neg and l1Sub. No condition beyond those typed. -/
import Derived.Test.YtdgonpbponnnaaaSgn
namespace Go.Proofs.Ytdgonpbponnnaaa
open Go.RowKit
set_option linter.unusedVariables false
set_option maxRecDepth 100000
set_option linter.unusedSimpArgs false

theorem sv_not (g : Bool) (xs : List Int) : sv (!g) xs = - sv g xs := by cases g <;> simp [sv]

/-- What an exported function over two numbers answers: V, where both are good and it fits. -/
def OutA (w : World) (P : Bool) (V : Int) (e : Ending) (w' : World) : Prop :=
  ∃ gr a n c zs ok, e = .returned (.tuple #[.agg #[.bool gr, .slice a n c], .bool ok]) ∧ Below w.heap.size w w' ∧ Own w.heap.size w' a zs ∧ Arg w' a n c zs ∧ Ans P V gr zs ok
theorem num_of_good {w : World} {g : Bool} {a : Option Addr} {n c : Nat} {xs : List Int} (ha : Arg w a n c xs) (h : goodB g xs = true) : Num w a n c xs := by
  obtain ⟨h1, h2, h3, _⟩ := good_parts h
  exact ⟨ha, h1, h2, by rw [← ha.len]; omega⟩
end Go.Proofs.Ytdgonpbponnnaaa
