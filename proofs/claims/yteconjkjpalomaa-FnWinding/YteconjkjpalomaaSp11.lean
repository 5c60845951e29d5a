/- Chapter 11 of the specification: points in triangles, numbers round about. No condition beyond those typed. Written by mksp11.py. -/
import Derived.Test.YteconjkjpalomaaRw11
import Derived.Test.YteconjkjpalomaaSp8X
import Derived.Test.YteconjkjpalomaaDr8
namespace Go.Proofs.Yteconjkjpalomaa
open Go.RowKit
set_option linter.unusedVariables false
set_option maxRecDepth 100000
set_option linter.unusedSimpArgs false

def inK (x y z : Int) : Bool := (decide (0 ≤ x) && decide (0 ≤ y) && decide (0 ≤ z)) || (decide (x ≤ 0) && decide (y ≤ 0) && decide (z ≤ 0))
/-- A point in a triangle or on it. -/
def inT (a b c p : Int × Int) : Bool := inK (sgZ (crs a b p)) (sgZ (crs b c p)) (sgZ (crs c a p))
def itB (a b c p : Int × Int) : Bool := [a, b, c, p].all gPt && !(sgZ (crs a b c) == 0)
def itV (a b c p : Int × Int) : Bool := itB a b c p && inT a b c p
/-- The numbers from 0 on. -/
def upI (n : Nat) : List Int := (List.range n).map (fun k : Nat => (k : Int))
theorem upI_len (n : Nat) : (upI n).length = n := by simp [upI]
theorem upI_succ (n : Nat) : upI (n + 1) = upI n ++ [(n : Int)] := by simp [upI, List.range_succ]
end Go.Proofs.Yteconjkjpalomaa
