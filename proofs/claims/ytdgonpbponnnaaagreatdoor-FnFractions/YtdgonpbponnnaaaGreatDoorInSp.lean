/- InSpan: the program's and the specification's, at every span and fraction. No condition beyond those typed. Written by mkin.py. -/
import Derived.Test.YtdgonpbponnnaaaGreatDoorCmpQ
namespace Go.Proofs.YtdgonpbponnnaaaGreatDoor
open Go.RowKit
set_option linter.unusedVariables false
set_option maxRecDepth 100000
set_option linter.unusedSimpArgs false

def inQ (d : SD) (e : QD) : Bool := decide (nQ d.lo * dQ e ≤ nQ e * dQ d.lo) && decide (nQ e * dQ d.hi ≤ nQ d.hi * dQ e)
def inS (d : SD) (e : QD) : Bool := (gS d && gQ e) && inQ d e

end Go.Proofs.YtdgonpbponnnaaaGreatDoor
