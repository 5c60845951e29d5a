/- The least span of one fraction; PointSpan: the program's and the specification's, at every fraction. No condition beyond those typed. Written by mkleast.py. -/
import Derived.Test.YtdgonpbponnnaaaGreatDoorCopyQ
namespace Go.Proofs.YtdgonpbponnnaaaGreatDoor
open Go.RowKit
set_option linter.unusedVariables false
set_option maxRecDepth 100000
set_option linter.unusedSimpArgs false

/-- Two variables' boxes that hold fractions. -/
structure Two4 (wk wx : World) (G1 G2 : Nat) (q1 q2 : QV) : Prop where
  lo1 : wk.heap.size ≤ G1
  lo2 : wk.heap.size ≤ G2
  ne : G1 ≠ G2
  hi1 : G1 < wx.heap.size
  hi2 : G2 < wx.heap.size
  a0 : wx.cell? ⟨G1, 0, none⟩ = some (.bool q1.num.g)
  a1 : wx.cell? ⟨G1, 1, none⟩ = some (.slice q1.num.a q1.num.n q1.num.c)
  a2 : wx.cell? ⟨G1, 2, none⟩ = some (.bool q1.den.g)
  a3 : wx.cell? ⟨G1, 3, none⟩ = some (.slice q1.den.a q1.den.n q1.den.c)
  b0 : wx.cell? ⟨G2, 0, none⟩ = some (.bool q2.num.g)
  b1 : wx.cell? ⟨G2, 1, none⟩ = some (.slice q2.num.a q2.num.n q2.num.c)
  b2 : wx.cell? ⟨G2, 2, none⟩ = some (.bool q2.den.g)
  b3 : wx.cell? ⟨G2, 3, none⟩ = some (.slice q2.den.a q2.den.n q2.den.c)
  f1 : ∀ o, wx.frozen? ⟨G1, o, none⟩ = false
  f2 : ∀ o, wx.frozen? ⟨G2, o, none⟩ = false
  bel : Below wk.heap.size wk wx

end Go.Proofs.YtdgonpbponnnaaaGreatDoor
