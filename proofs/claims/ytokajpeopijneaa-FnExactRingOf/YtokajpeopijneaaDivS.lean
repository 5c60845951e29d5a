/- Quotients of limbs by one number: the program's divByInt and the specification's l1Short. No condition beyond those typed. -/
import Derived.Test.YtokajpeopijneaaDivM
namespace Go.Proofs.Ytokajpeopijneaa
open Go.RowKit
set_option linter.unusedVariables false
set_option maxRecDepth 100000
set_option linter.unusedSimpArgs false

/-- Two slices lie in two blocks, or one of them has nothing. -/
def Apart (a : Option Addr) (zs : List Int) (a' : Option Addr) (rs : List Int) : Prop := zs = [] ∨ rs = [] ∨ ∃ b o b' o', a = some ⟨b, o, none⟩ ∧ a' = some ⟨b', o', none⟩ ∧ b < b'
/-- A call answers limbs of Q and of R, each in memory of its own. -/
def Out2 (w : World) (Q R : Int) (e : Ending) (w' : World) : Prop :=
  ∃ a n c zs a' n' c' rs, e = .returned (.tuple #[.slice a n c, .slice a' n' c']) ∧ Below w.heap.size w w' ∧ Own w.heap.size w' a zs ∧ Arg w' a n c zs ∧ Nm zs Q ∧ Own w.heap.size w' a' rs ∧ Arg w' a' n' c' rs ∧ Nm rs R ∧ Apart a zs a' rs
theorem apart_of {base : Nat} {w w' : World} {a a' : Option Addr} {zs rs : List Int} (h : Own base w a zs) (k : Own w.heap.size w' a' rs) : Apart a zs a' rs := by
  rcases h with h | ⟨b, cur, rfl, h1, hg, hc⟩
  · exact .inl h
  · rcases k with k | ⟨b', cur', rfl, k1, kg, kc⟩
    · exact .inr (.inl k)
    · exact .inr (.inr ⟨b, 0, b', 0, rfl, rfl, by have := (Array.getElem?_eq_some_iff.1 hg).1; omega⟩)
theorem one_arg (w : World) (r : Int) : Arg (w.alloc (.cells #[.int .i64 r] 3)) (some ⟨w.heap.size, 0, none⟩) 1 1 [r] ∧ Own w.heap.size (w.alloc (.cells #[.int .i64 r] 3)) (some ⟨w.heap.size, 0, none⟩) [r] := by
  have ho : Own w.heap.size (w.alloc (.cells #[.int .i64 r] 3)) (some ⟨w.heap.size, 0, none⟩) [r] := by
    refine .inr ⟨w.heap.size, #[.int .i64 r], rfl, Nat.le_refl _, ?_, fun i hi => ?_⟩
    · show (w.heap.push _)[w.heap.size]? = _
      simp
    · have : i = 0 := by simp at hi; omega
      subst this; rfl
  exact ⟨⟨ho.sl, rfl, Nat.le_refl _, by unfold maxLen; omega, .inr ⟨_, _, rfl⟩⟩, ho⟩

end Go.Proofs.Ytokajpeopijneaa
