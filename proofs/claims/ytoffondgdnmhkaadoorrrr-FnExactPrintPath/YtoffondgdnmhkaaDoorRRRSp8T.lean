/- TurnAll of the specification. No condition beyond those typed. -/
import Derived.Test.YtoffondgdnmhkaaDoorRRRSp8
import Derived.Test.YtoffondgdnmhkaaDoorRRRPtM
import Derived.Deep.AppendLies
namespace Go.Proofs.YtoffondgdnmhkaaDoorRRR
open Go.RowKit
set_option linter.unusedVariables false
set_option maxRecDepth 100000
set_option linter.unusedSimpArgs false

def flatP (l : List (Int × Int)) : List Value := l.flatMap (fun p => [.int .i64 p.1, .int .i64 p.2])
theorem flatP_append (l m : List (Int × Int)) : flatP (l ++ m) = flatP l ++ flatP m := by simp [flatP]
theorem flatP_one (x y : Int) : flatP [(x, y)] = [.int .i64 x, .int .i64 y] := by simp [flatP]
theorem flatP_at : ∀ (l : List (Int × Int)) (i : Nat) (h : i < l.length), (flatP l)[i * 2]? = some (.int .i64 l[i].1) ∧ (flatP l)[i * 2 + 1]? = some (.int .i64 l[i].2)
  | [], i, h => absurd h (by simp)
  | p :: l, 0, h => by simp [flatP]
  | p :: l, i + 1, h => by
    have ih := flatP_at l i (by simpa using h)
    have e : flatP (p :: l) = .int .i64 p.1 :: .int .i64 p.2 :: flatP l := by simp [flatP]
    rw [e, show (i + 1) * 2 = i * 2 + 1 + 1 by omega]
    simpa using ih
theorem own_rt {w : World} {B n : Nat} {v : Value} {l : List (Int × Int)} (h : w.ownsRow B 46 2 v n (flatP l)) (hl : l.length = n) : ∃ a c, v = .slice a n c ∧ RtP B w a n c l := by
  rcases h.2 with ⟨rfl, h0⟩ | ⟨g, cap, cur, rfl, hb, r⟩
  · subst h0
    exact ⟨none, 0, rfl, hl, .inl rfl⟩
  · exact ⟨_, _, rfl, hl, .inr ⟨g, rfl, hb, ⟨flatP l, ⟨h.1, .inr ⟨g, cap, cur, rfl, Nat.le_refl _, r⟩⟩, flatP_at l⟩, hl⟩⟩
theorem new_cellP (w : World) (x y : Int) : ∀ j u, [Value.int .i64 x, Value.int .i64 y][j]? = some u → (w.alloc (.cells #[.int .i64 x, .int .i64 y] 46)).cell? ((⟨w.heap.size, 0, none⟩ : Addr).add j) = some u :=
  World.news_of_block (cs := #[.int .i64 x, .int .i64 y]) (t := 46) (fr := (0, 0)) (by show (w.heap.push _)[w.heap.size]? = _; simp)
theorem one_rowP (w : World) (x y : Int) : (w.alloc (.cells #[.int .i64 x, .int .i64 y] 46)).ownsRow w.heap.size 46 2 (.slice (some ⟨w.heap.size, 0, none⟩) 1 1) 1 (flatP [(x, y)]) := by
  refine ⟨rfl, .inr ⟨w.heap.size, 1, #[.int .i64 x, .int .i64 y], rfl, Nat.le_refl _, ?_, Nat.le_refl _, by unfold maxLen; omega, rfl, by simp [flatP]⟩⟩
  show (w.heap.push _)[w.heap.size]? = _
  simp
/-- The first point, and j points from the last one back. -/
def tvN (l : List (Int × Int)) (j : Nat) : List (Int × Int) := l.getD 0 (0, 0) :: (List.range j).map (fun t => l.getD (l.length - 1 - t) (0, 0))
theorem tvN_len (l : List (Int × Int)) (j : Nat) : (tvN l j).length = j + 1 := by simp [tvN]
theorem tvN_succ (l : List (Int × Int)) (j : Nat) : tvN l (j + 1) = tvN l j ++ [l.getD (l.length - 1 - j) (0, 0)] := by simp [tvN, List.range_succ]
def tvV (l : List (Int × Int)) : List (Int × Int) := if wayB l then tvN l (l.length - 1) else []
theorem push_belowP {B : Nat} {W wr w1 : World} {o : Obj} {v : Value} {n : Nat} {xs : List Value} (hb : Below B W wr) (hB : B ≤ wr.heap.size) (hown : wr.ownsRow B 46 2 v n xs) (hg : (wr.alloc o).grownBy w1 v.ownBlock) : Below B W w1 := by
  have h1 : Below B W (wr.alloc o) := hb.alloc hB o
  refine h1.grown hg (by simp; omega) (fun k e => ?_)
  rcases hown.2 with ⟨rfl, _⟩ | ⟨g, cap, cur, rfl, hb', _⟩
  · simp [Value.ownBlock] at e
  · simp [Value.ownBlock] at e
    omega
end Go.Proofs.YtoffondgdnmhkaaDoorRRR
