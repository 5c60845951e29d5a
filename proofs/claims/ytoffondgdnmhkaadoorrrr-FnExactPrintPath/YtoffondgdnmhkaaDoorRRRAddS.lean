/- Sums and differences of limbs: the specification's l1Limb, l1AddLimbs and l1SubLimbs. No condition beyond those typed. -/
import Derived.Test.YtoffondgdnmhkaaDoorRRRSubI
namespace Go.Proofs.YtoffondgdnmhkaaDoorRRR
open Go.RowKit
set_option linter.unusedVariables false
set_option maxRecDepth 100000
set_option linter.unusedSimpArgs false

theorem getD_out {xs : List Int} {k n : Nat} (hn : xs.length = n) (h : n ≤ k) : xs.getD k 0 = 0 := by
  simp only [List.getD_eq_getElem?_getD]; rw [List.getElem?_eq_none (by omega)]; rfl

theorem push_owns {w w1 : World} {base : Nat} {v v' : Value} {k : Nat} {zs : List Int} {d : Int} (hown : w1.ownsRow base 3 1 v' (k + 1) (zs.map (Value.int .i64) ++ [.int .i64 d])) : w1.ownsRow base 3 1 v' (k + 1) ((zs ++ [d]).map (Value.int .i64)) := by
  simpa using hown
theorem below_push {w wr w1 : World} {o : Obj} {base : Nat} {v : Value} {n : Nat} {xs : List Value} (hb : Below w.heap.size w wr) (hown : wr.ownsRow w.heap.size 3 1 v n xs) (hg : (wr.alloc o).grownBy w1 v.ownBlock) : Below w.heap.size w w1 := by
  refine (hb.alloc hb.size o).grown hg (by simp; have := hb.size; omega) ?_
  intro k e
  rcases hown.2 with ⟨rfl, _⟩ | ⟨g, cap, cur, rfl, hgb, _⟩
  · simp [Value.ownBlock] at e
  · simp [Value.ownBlock] at e; omega
theorem new_cell (w : World) (d : Int) : ∀ j u, [Value.int .i64 d][j]? = some u → (w.alloc (.cells #[.int .i64 d] 3)).cell? ((⟨w.heap.size, 0, none⟩ : Addr).add j) = some u := by
  intro j u hj
  match j, hj with
  | 0, hj => simp at hj; subst hj; simp [Addr.add]

end Go.Proofs.YtoffondgdnmhkaaDoorRRR
