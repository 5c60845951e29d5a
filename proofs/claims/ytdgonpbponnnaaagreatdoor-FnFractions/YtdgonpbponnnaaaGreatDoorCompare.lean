/- CompareBig: the program's and the specification's answer the same pair at every two numbers. No condition beyond those typed. -/
import Derived.Test.YtdgonpbponnnaaaGreatDoorCmp
namespace Go.Proofs.YtdgonpbponnnaaaGreatDoor
open Go.RowKit
set_option linter.unusedVariables false
set_option maxRecDepth 100000
set_option linter.unusedSimpArgs false

theorem below_via {w w1 w2 : World} (h : Below w.heap.size w w1) (k : Below w1.heap.size w1 w2) : Below w.heap.size w w2 := h.trans (k.mono h.size)
def cmpOk (g : Bool) (xs : List Int) (g' : Bool) (ys : List Int) : Bool := goodB g xs && goodB g' ys
def cmpV (g : Bool) (xs : List Int) (g' : Bool) (ys : List Int) : Int := if cmpOk g xs g' ys then cmpB g xs g' ys else 0

end Go.Proofs.YtdgonpbponnnaaaGreatDoor
