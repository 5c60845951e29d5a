/- Slices of integers of the law's own; ContainsFunc over integers. No condition beyond those typed. Written by mkin14.py. -/
import Derived.Test.YtoffondgdnmhkaaDoorRRRRt11
import Derived.Test.YtoffondgdnmhkaaDoorRRRLaw2
namespace Go.Proofs.YtoffondgdnmhkaaDoorRRR
open Go.RowKit
set_option linter.unusedVariables false
set_option maxRecDepth 100000
set_option linter.unusedSimpArgs false

/-- A slice of integers in memory of the law's own. -/
structure OwI (lo hi : Nat) (w : World) (g n : Nat) (xs : List Int) : Prop where
  own : Own2 lo hi w (some ⟨g, 0, none⟩) xs
  arg : Arg w (some ⟨g, 0, none⟩) n n xs
theorem OwI.later {lo hi : Nat} {w w' : World} {g n : Nat} {xs : List Int} (h : OwI lo hi w g n xs) (hb : Below w.heap.size w w') : OwI lo hi w' g n xs := ⟨h.own.later hb, h.arg.later hb⟩
theorem getD_at14 {xs : List Int} {i : Nat} (h : i < xs.length) : xs.getD i 0 = xs[i] := by simp [List.getD, h]
theorem take_succ14 {xs : List Int} {i : Nat} (h : i < xs.length) : xs.take (i + 1) = xs.take i ++ [xs.getD i 0] := by
  rw [List.take_add_one, List.getElem?_eq_getElem h, getD_at14 h]
  rfl
theorem RtI.keep2 {B lo hi : Nat} {w w' : World} {a : Option Addr} {n c : Nat} {l : List Int} (h : RtI B w a n c l) (hb : But lo hi w w') (hG : hi ≤ B) : RtI B w' a n c l := by
  refine ⟨h.len, ?_⟩
  rcases h.own with h0 | ⟨b, cur, e, h1, h2, h3⟩
  · exact .inl h0
  · refine .inr ⟨b, cur, e, h1, ?_, h3⟩
    rw [hb.block b (Array.getElem?_eq_some_iff.1 h2).1 (.inr (by omega))]
    exact h2
end Go.Proofs.YtoffondgdnmhkaaDoorRRR
