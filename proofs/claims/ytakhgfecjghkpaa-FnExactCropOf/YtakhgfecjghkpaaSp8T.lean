/- TurnAll of the specification. No condition beyond those typed. -/
import Derived.Test.YtakhgfecjghkpaaSp8
import Derived.Test.YtakhgfecjghkpaaPtM
import Derived.Deep.AppendLies
namespace Go.Proofs.Ytakhgfecjghkpaa
open Go.RowKit
set_option linter.unusedVariables false
set_option maxRecDepth 100000
set_option linter.unusedSimpArgs false

def flatP (l : List (Int × Int)) : List Value := l.flatMap (fun p => [.int .i64 p.1, .int .i64 p.2])
theorem flatP_append (l m : List (Int × Int)) : flatP (l ++ m) = flatP l ++ flatP m := by simp [flatP]
theorem flatP_one (x y : Int) : flatP [(x, y)] = [.int .i64 x, .int .i64 y] := by simp [flatP]
theorem flatP_at : ∀ (l : List (Int × Int)) (i : Nat) (h : i < l.length), (flatP l)[i * 2]? = some (.int .i64 l[i].1) ∧ (flatP l)[i * 2 + 1]? = some (.int .i64 l[i].2)
  | [], i, h => absurd h (by simp)
  | p :: l, 0, h => by simp [flatP]
  | p :: l, i + 1, h => by
    have ih := flatP_at l i (by simpa using h)
    have e : flatP (p :: l) = .int .i64 p.1 :: .int .i64 p.2 :: flatP l := by simp [flatP]
    rw [e, show (i + 1) * 2 = i * 2 + 1 + 1 by omega]
    simpa using ih
/-- The first point, and j points from the last one back. -/
def tvN (l : List (Int × Int)) (j : Nat) : List (Int × Int) := l.getD 0 (0, 0) :: (List.range j).map (fun t => l.getD (l.length - 1 - t) (0, 0))
theorem tvN_len (l : List (Int × Int)) (j : Nat) : (tvN l j).length = j + 1 := by simp [tvN]
theorem tvN_succ (l : List (Int × Int)) (j : Nat) : tvN l (j + 1) = tvN l j ++ [l.getD (l.length - 1 - j) (0, 0)] := by simp [tvN, List.range_succ]
def tvV (l : List (Int × Int)) : List (Int × Int) := if wayB l then tvN l (l.length - 1) else []
end Go.Proofs.Ytakhgfecjghkpaa
