/- The comparing functions of limbs and of numbers: the program's and the specification's answer the same number. No condition beyond those typed. -/
import Derived.Test.YtoffondgdnmhkaaDoorRRRGood
namespace Go.Proofs.YtoffondgdnmhkaaDoorRRR
open Go.RowKit
set_option linter.unusedVariables false
set_option maxRecDepth 100000
set_option linter.unusedSimpArgs false

def cmpTop (xs ys : List Int) : Nat → Int
  | 0 => 0
  | k + 1 => if xs.getD k 0 < ys.getD k 0 then -1 else if ys.getD k 0 < xs.getD k 0 then 1 else cmpTop xs ys k
def cmpL (xs ys : List Int) : Int := if xs.length < ys.length then -1 else if ys.length < xs.length then 1 else cmpTop xs ys xs.length
theorem cmpTop_lt {xs ys : List Int} {k : Nat} (h : xs.getD k 0 < ys.getD k 0) : cmpTop xs ys (k + 1) = -1 := by unfold cmpTop; rw [if_pos h]
theorem cmpTop_gt {xs ys : List Int} {k : Nat} (h : ys.getD k 0 < xs.getD k 0) : cmpTop xs ys (k + 1) = 1 := by unfold cmpTop; rw [if_neg (by omega), if_pos h]
theorem cmpTop_eq {xs ys : List Int} {k : Nat} (h1 : ¬ xs.getD k 0 < ys.getD k 0) (h2 : ¬ ys.getD k 0 < xs.getD k 0) : cmpTop xs ys (k + 1) = cmpTop xs ys k := by
  show (if _ then _ else _) = _
  rw [if_neg h1, if_neg h2]

def cmpB (g : Bool) (xs : List Int) (g' : Bool) (ys : List Int) : Int :=
  if g = g' then (if g then cmpL ys xs else cmpL xs ys) else (if g then -1 else 1)
theorem below_two (w : World) (o o' : Obj) : Below w.heap.size w ((w.alloc o).alloc o') := ((Below.refl _ _).alloc (Nat.le_refl _) _).alloc (by simp) _
theorem below_two' {w w1 : World} {o o' : Obj} (h : Below ((w.alloc o).alloc o').heap.size ((w.alloc o).alloc o') w1) : Below w.heap.size w w1 := (below_two w o o').trans (h.mono (by simp; omega))

end Go.Proofs.YtoffondgdnmhkaaDoorRRR
