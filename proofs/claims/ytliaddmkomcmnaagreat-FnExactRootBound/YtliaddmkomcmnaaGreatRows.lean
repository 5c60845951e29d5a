/-
  No cell of these rows narrows 'for every input' (looked for: loops, veiled, ifaces, maps, wideKeys, modest, calm, conditions, laid).
  DERIVED. THE GIVEN ROWS OF THIS SEAT. 9 by the template 'for every input the law returns true; each argument reads behind the call as it read before'; 0 by the template 'total and deterministic' (their statements: YtliaddmkomcmnaaGreatTotals.lean).
  GIVEN WITH THE SEED: the statements are not yours to turn. If you find one false, say at which input.
  Laid BY PROGRAM, IN A SANDBOX (cutbox-rows.mjs): the forced cells as the released guide's own fill.sh prints them over the translation 0d89bb515d3a98d2… (all of the seat's roots in one cut). By AI agents, Wed Nov 11 2026. No macro, syntax, notation, axiom, sorry.
-/
import Derived.Test.YtliaddmkomcmnaaGreatChecked
import GoSem.Claim
import GoSem.ClaimJoined
import GoSem.ClaimMapViews
import Derived.JoinedTies
import Derived.KernelRfl
namespace Go.Proofs.YtliaddmkomcmnaaGreat
/- THE CELL 'sum', in the pinned program and in every row, IS THE sha256 OF THE DUMP (.gsa) THAT YtliaddmkomcmnaaGreatProg.lean LOADS. Nothing in Lean hashes anything: it is a label: what it is worth is what the hold of that sum in a sandbox is worth. -/
noncomputable def Tryz.pinned : Pinned := { name := "ytliaddmkomcmnaagreat", sum := "0d89bb515d3a98d2f60ced739538188020528699bce7b24b7142b37f689d8e2d", checked := Tryz.checked }
namespace Rows
def none {H : Type} : Left H := { results := [], args := [] }

/-- 'laws.FnSturm': WHATEVER THE INPUT: true; the input reads as it did. -/
def fnSturmSpec : ChangeSpec := { name := "fnSturm", fn := fun _ => fun
  | [d1, d2] => { results := [.lit (.bool true)], args := [d1, d2] }
  | _ => none }
def fnSturmRow : OpenClaim := { program := "ytliaddmkomcmnaagreat", sum := "0d89bb515d3a98d2f60ced739538188020528699bce7b24b7142b37f689d8e2d", func := "loop.example/g00409/laws.FnSturm", spec := "fnSturm", unfollowed := true, recurses := true, apart := false }
def FnSturmSaid : Prop := fnSturmRow.holds Tryz.pinned (OpenSpec.ofChange fnSturmSpec)

/-- ITS FALSE NEIGHBOUR: 'it returns false'. Refute it at one input. -/
def fnSturmWrong : ChangeSpec := { name := "fnSturm", fn := fun _ => fun
  | [d1, d2] => { results := [.lit (.bool false)], args := [d1, d2] }
  | _ => none }
def FnSturmWrongFalsely : Prop := fnSturmRow.holds Tryz.pinned (OpenSpec.ofChange fnSturmWrong)

/-- 'laws.FnBudan': WHATEVER THE INPUT: true; the input reads as it did. -/
def fnBudanSpec : ChangeSpec := { name := "fnBudan", fn := fun _ => fun
  | [d1, d2] => { results := [.lit (.bool true)], args := [d1, d2] }
  | _ => none }
def fnBudanRow : OpenClaim := { program := "ytliaddmkomcmnaagreat", sum := "0d89bb515d3a98d2f60ced739538188020528699bce7b24b7142b37f689d8e2d", func := "loop.example/g00409/laws.FnBudan", spec := "fnBudan", unfollowed := true, recurses := true, apart := false }
def FnBudanSaid : Prop := fnBudanRow.holds Tryz.pinned (OpenSpec.ofChange fnBudanSpec)

/-- ITS FALSE NEIGHBOUR: 'it returns false'. Refute it at one input. -/
def fnBudanWrong : ChangeSpec := { name := "fnBudan", fn := fun _ => fun
  | [d1, d2] => { results := [.lit (.bool false)], args := [d1, d2] }
  | _ => none }
def FnBudanWrongFalsely : Prop := fnBudanRow.holds Tryz.pinned (OpenSpec.ofChange fnBudanWrong)

/-- 'laws.FnExactShiftPoly': WHATEVER THE INPUT: true; the input reads as it did. -/
def fnExactShiftPolySpec : ChangeSpec := { name := "fnExactShiftPoly", fn := fun _ => fun
  | [d1, d2] => { results := [.lit (.bool true)], args := [d1, d2] }
  | _ => none }
def fnExactShiftPolyRow : OpenClaim := { program := "ytliaddmkomcmnaagreat", sum := "0d89bb515d3a98d2f60ced739538188020528699bce7b24b7142b37f689d8e2d", func := "loop.example/g00409/laws.FnExactShiftPoly", spec := "fnExactShiftPoly", unfollowed := true, recurses := true, apart := false }
def FnExactShiftPolySaid : Prop := fnExactShiftPolyRow.holds Tryz.pinned (OpenSpec.ofChange fnExactShiftPolySpec)

/-- ITS FALSE NEIGHBOUR: 'it returns false'. Refute it at one input. -/
def fnExactShiftPolyWrong : ChangeSpec := { name := "fnExactShiftPoly", fn := fun _ => fun
  | [d1, d2] => { results := [.lit (.bool false)], args := [d1, d2] }
  | _ => none }
def FnExactShiftPolyWrongFalsely : Prop := fnExactShiftPolyRow.holds Tryz.pinned (OpenSpec.ofChange fnExactShiftPolyWrong)

/-- 'laws.FnExactChainOf': WHATEVER THE INPUT: true; the input reads as it did. -/
def fnExactChainOfSpec : ChangeSpec := { name := "fnExactChainOf", fn := fun _ => fun
  | [d] => { results := [.lit (.bool true)], args := [d] }
  | _ => none }
def fnExactChainOfRow : OpenClaim := { program := "ytliaddmkomcmnaagreat", sum := "0d89bb515d3a98d2f60ced739538188020528699bce7b24b7142b37f689d8e2d", func := "loop.example/g00409/laws.FnExactChainOf", spec := "fnExactChainOf", unfollowed := true, recurses := true, apart := false }
def FnExactChainOfSaid : Prop := fnExactChainOfRow.holds Tryz.pinned (OpenSpec.ofChange fnExactChainOfSpec)

/-- ITS FALSE NEIGHBOUR: 'it returns false'. Refute it at one input. -/
def fnExactChainOfWrong : ChangeSpec := { name := "fnExactChainOf", fn := fun _ => fun
  | [d] => { results := [.lit (.bool false)], args := [d] }
  | _ => none }
def FnExactChainOfWrongFalsely : Prop := fnExactChainOfRow.holds Tryz.pinned (OpenSpec.ofChange fnExactChainOfWrong)

/-- 'laws.FnExactChangesAt': WHATEVER THE INPUT: true; the input reads as it did. -/
def fnExactChangesAtSpec : ChangeSpec := { name := "fnExactChangesAt", fn := fun _ => fun
  | [d1, d2] => { results := [.lit (.bool true)], args := [d1, d2] }
  | _ => none }
def fnExactChangesAtRow : OpenClaim := { program := "ytliaddmkomcmnaagreat", sum := "0d89bb515d3a98d2f60ced739538188020528699bce7b24b7142b37f689d8e2d", func := "loop.example/g00409/laws.FnExactChangesAt", spec := "fnExactChangesAt", unfollowed := true, recurses := true, apart := false }
def FnExactChangesAtSaid : Prop := fnExactChangesAtRow.holds Tryz.pinned (OpenSpec.ofChange fnExactChangesAtSpec)

/-- ITS FALSE NEIGHBOUR: 'it returns false'. Refute it at one input. -/
def fnExactChangesAtWrong : ChangeSpec := { name := "fnExactChangesAt", fn := fun _ => fun
  | [d1, d2] => { results := [.lit (.bool false)], args := [d1, d2] }
  | _ => none }
def FnExactChangesAtWrongFalsely : Prop := fnExactChangesAtRow.holds Tryz.pinned (OpenSpec.ofChange fnExactChangesAtWrong)

/-- 'laws.FnExactCountRoots': WHATEVER THE INPUT: true; the input reads as it did. -/
def fnExactCountRootsSpec : ChangeSpec := { name := "fnExactCountRoots", fn := fun _ => fun
  | [d1, d2, d3] => { results := [.lit (.bool true)], args := [d1, d2, d3] }
  | _ => none }
def fnExactCountRootsRow : OpenClaim := { program := "ytliaddmkomcmnaagreat", sum := "0d89bb515d3a98d2f60ced739538188020528699bce7b24b7142b37f689d8e2d", func := "loop.example/g00409/laws.FnExactCountRoots", spec := "fnExactCountRoots", unfollowed := true, recurses := true, apart := false }
def FnExactCountRootsSaid : Prop := fnExactCountRootsRow.holds Tryz.pinned (OpenSpec.ofChange fnExactCountRootsSpec)

/-- ITS FALSE NEIGHBOUR: 'it returns false'. Refute it at one input. -/
def fnExactCountRootsWrong : ChangeSpec := { name := "fnExactCountRoots", fn := fun _ => fun
  | [d1, d2, d3] => { results := [.lit (.bool false)], args := [d1, d2, d3] }
  | _ => none }
def FnExactCountRootsWrongFalsely : Prop := fnExactCountRootsRow.holds Tryz.pinned (OpenSpec.ofChange fnExactCountRootsWrong)

/-- 'laws.FnExactCountAll': WHATEVER THE INPUT: true; the input reads as it did. -/
def fnExactCountAllSpec : ChangeSpec := { name := "fnExactCountAll", fn := fun _ => fun
  | [d] => { results := [.lit (.bool true)], args := [d] }
  | _ => none }
def fnExactCountAllRow : OpenClaim := { program := "ytliaddmkomcmnaagreat", sum := "0d89bb515d3a98d2f60ced739538188020528699bce7b24b7142b37f689d8e2d", func := "loop.example/g00409/laws.FnExactCountAll", spec := "fnExactCountAll", unfollowed := true, recurses := true, apart := false }
def FnExactCountAllSaid : Prop := fnExactCountAllRow.holds Tryz.pinned (OpenSpec.ofChange fnExactCountAllSpec)

/-- ITS FALSE NEIGHBOUR: 'it returns false'. Refute it at one input. -/
def fnExactCountAllWrong : ChangeSpec := { name := "fnExactCountAll", fn := fun _ => fun
  | [d] => { results := [.lit (.bool false)], args := [d] }
  | _ => none }
def FnExactCountAllWrongFalsely : Prop := fnExactCountAllRow.holds Tryz.pinned (OpenSpec.ofChange fnExactCountAllWrong)

/-- 'laws.FnExactRootBound': WHATEVER THE INPUT: true; the input reads as it did. -/
def fnExactRootBoundSpec : ChangeSpec := { name := "fnExactRootBound", fn := fun _ => fun
  | [d] => { results := [.lit (.bool true)], args := [d] }
  | _ => none }
def fnExactRootBoundRow : OpenClaim := { program := "ytliaddmkomcmnaagreat", sum := "0d89bb515d3a98d2f60ced739538188020528699bce7b24b7142b37f689d8e2d", func := "loop.example/g00409/laws.FnExactRootBound", spec := "fnExactRootBound", unfollowed := true, recurses := true, apart := false }
def FnExactRootBoundSaid : Prop := fnExactRootBoundRow.holds Tryz.pinned (OpenSpec.ofChange fnExactRootBoundSpec)

/-- ITS FALSE NEIGHBOUR: 'it returns false'. Refute it at one input. -/
def fnExactRootBoundWrong : ChangeSpec := { name := "fnExactRootBound", fn := fun _ => fun
  | [d] => { results := [.lit (.bool false)], args := [d] }
  | _ => none }
def FnExactRootBoundWrongFalsely : Prop := fnExactRootBoundRow.holds Tryz.pinned (OpenSpec.ofChange fnExactRootBoundWrong)

/-- 'laws.FnExactBudanCount': WHATEVER THE INPUT: true; the input reads as it did. -/
def fnExactBudanCountSpec : ChangeSpec := { name := "fnExactBudanCount", fn := fun _ => fun
  | [d1, d2, d3] => { results := [.lit (.bool true)], args := [d1, d2, d3] }
  | _ => none }
def fnExactBudanCountRow : OpenClaim := { program := "ytliaddmkomcmnaagreat", sum := "0d89bb515d3a98d2f60ced739538188020528699bce7b24b7142b37f689d8e2d", func := "loop.example/g00409/laws.FnExactBudanCount", spec := "fnExactBudanCount", unfollowed := true, recurses := true, apart := false }
def FnExactBudanCountSaid : Prop := fnExactBudanCountRow.holds Tryz.pinned (OpenSpec.ofChange fnExactBudanCountSpec)

/-- ITS FALSE NEIGHBOUR: 'it returns false'. Refute it at one input. -/
def fnExactBudanCountWrong : ChangeSpec := { name := "fnExactBudanCount", fn := fun _ => fun
  | [d1, d2, d3] => { results := [.lit (.bool false)], args := [d1, d2, d3] }
  | _ => none }
def FnExactBudanCountWrongFalsely : Prop := fnExactBudanCountRow.holds Tryz.pinned (OpenSpec.ofChange fnExactBudanCountWrong)

/- THE SECOND FORM. 'bulk': how many values and letters a reading holds, each counted each time it is reached (what is shared counts as often as it is met; a slice's spare places count too). A statement '..UptoSaid' is the law's where the arguments, and the package variables that the reading takes, are together of bulk at most 1048576: NARROWER than '..Said'. Prove '..Said' where nothing that the law and all that it calls make is longer than what came in: it says more and counts as full. Else prove '..UptoSaid'. A law counts once. -/
mutual
def uptoBulk {H : Type} : DataW H → Nat
  | .lit (.string bytes) => bytes.length + 1
  | .lit _ => 1
  | .nil => 1
  | .ptr d => uptoBulk d + 1
  | .slice elems spare => uptoBulkAll elems + uptoBulkAll spare + 1
  | .agg parts => uptoBulkAll parts + 1
  | .iface _ d => uptoBulk d + 1
  | .map entries => uptoBulkEntries entries + 1
  | .held _ => 1
def uptoBulkAll {H : Type} : List (DataW H) → Nat
  | [] => 0
  | d :: r => uptoBulk d + uptoBulkAll r
def uptoBulkEntries {H : Type} : List (Lit × DataW H) → Nat
  | [] => 0
  | x :: r => uptoBulkEntry x + uptoBulkEntries r
def uptoBulkEntry {H : Type} : Lit × DataW H → Nat
  | (.string bytes, d) => bytes.length + uptoBulk d + 1
  | (_, d) => uptoBulk d + 1
 end
def uptoSmall : (H : Type) → List (DataW H) → Bool := fun _ ds => decide (uptoBulkAll ds ≤ 1048576)
def OpenSpec.upto (s : _root_.Go.ChangeSpec) : _root_.Go.OpenSpec := { _root_.Go.OpenSpec.ofChange s with cond := some uptoSmall }

/-- 'laws.FnSturm', WHERE WHAT IT READS IS OF BULK AT MOST 1048576: true; the input reads as it did. -/
def fnSturmUptoRow : OpenClaim := { program := "ytliaddmkomcmnaagreat", sum := "0d89bb515d3a98d2f60ced739538188020528699bce7b24b7142b37f689d8e2d", func := "loop.example/g00409/laws.FnSturm", spec := "fnSturm", unfollowed := true, recurses := true, apart := false, narrowed := true }
def FnSturmUptoSaid : Prop := fnSturmUptoRow.holds Tryz.pinned (OpenSpec.upto fnSturmSpec)

/-- 'laws.FnBudan', WHERE WHAT IT READS IS OF BULK AT MOST 1048576: true; the input reads as it did. -/
def fnBudanUptoRow : OpenClaim := { program := "ytliaddmkomcmnaagreat", sum := "0d89bb515d3a98d2f60ced739538188020528699bce7b24b7142b37f689d8e2d", func := "loop.example/g00409/laws.FnBudan", spec := "fnBudan", unfollowed := true, recurses := true, apart := false, narrowed := true }
def FnBudanUptoSaid : Prop := fnBudanUptoRow.holds Tryz.pinned (OpenSpec.upto fnBudanSpec)

/-- 'laws.FnExactShiftPoly', WHERE WHAT IT READS IS OF BULK AT MOST 1048576: true; the input reads as it did. -/
def fnExactShiftPolyUptoRow : OpenClaim := { program := "ytliaddmkomcmnaagreat", sum := "0d89bb515d3a98d2f60ced739538188020528699bce7b24b7142b37f689d8e2d", func := "loop.example/g00409/laws.FnExactShiftPoly", spec := "fnExactShiftPoly", unfollowed := true, recurses := true, apart := false, narrowed := true }
def FnExactShiftPolyUptoSaid : Prop := fnExactShiftPolyUptoRow.holds Tryz.pinned (OpenSpec.upto fnExactShiftPolySpec)

/-- 'laws.FnExactChainOf', WHERE WHAT IT READS IS OF BULK AT MOST 1048576: true; the input reads as it did. -/
def fnExactChainOfUptoRow : OpenClaim := { program := "ytliaddmkomcmnaagreat", sum := "0d89bb515d3a98d2f60ced739538188020528699bce7b24b7142b37f689d8e2d", func := "loop.example/g00409/laws.FnExactChainOf", spec := "fnExactChainOf", unfollowed := true, recurses := true, apart := false, narrowed := true }
def FnExactChainOfUptoSaid : Prop := fnExactChainOfUptoRow.holds Tryz.pinned (OpenSpec.upto fnExactChainOfSpec)

/-- 'laws.FnExactChangesAt', WHERE WHAT IT READS IS OF BULK AT MOST 1048576: true; the input reads as it did. -/
def fnExactChangesAtUptoRow : OpenClaim := { program := "ytliaddmkomcmnaagreat", sum := "0d89bb515d3a98d2f60ced739538188020528699bce7b24b7142b37f689d8e2d", func := "loop.example/g00409/laws.FnExactChangesAt", spec := "fnExactChangesAt", unfollowed := true, recurses := true, apart := false, narrowed := true }
def FnExactChangesAtUptoSaid : Prop := fnExactChangesAtUptoRow.holds Tryz.pinned (OpenSpec.upto fnExactChangesAtSpec)

/-- 'laws.FnExactCountRoots', WHERE WHAT IT READS IS OF BULK AT MOST 1048576: true; the input reads as it did. -/
def fnExactCountRootsUptoRow : OpenClaim := { program := "ytliaddmkomcmnaagreat", sum := "0d89bb515d3a98d2f60ced739538188020528699bce7b24b7142b37f689d8e2d", func := "loop.example/g00409/laws.FnExactCountRoots", spec := "fnExactCountRoots", unfollowed := true, recurses := true, apart := false, narrowed := true }
def FnExactCountRootsUptoSaid : Prop := fnExactCountRootsUptoRow.holds Tryz.pinned (OpenSpec.upto fnExactCountRootsSpec)

/-- 'laws.FnExactCountAll', WHERE WHAT IT READS IS OF BULK AT MOST 1048576: true; the input reads as it did. -/
def fnExactCountAllUptoRow : OpenClaim := { program := "ytliaddmkomcmnaagreat", sum := "0d89bb515d3a98d2f60ced739538188020528699bce7b24b7142b37f689d8e2d", func := "loop.example/g00409/laws.FnExactCountAll", spec := "fnExactCountAll", unfollowed := true, recurses := true, apart := false, narrowed := true }
def FnExactCountAllUptoSaid : Prop := fnExactCountAllUptoRow.holds Tryz.pinned (OpenSpec.upto fnExactCountAllSpec)

/-- 'laws.FnExactRootBound', WHERE WHAT IT READS IS OF BULK AT MOST 1048576: true; the input reads as it did. -/
def fnExactRootBoundUptoRow : OpenClaim := { program := "ytliaddmkomcmnaagreat", sum := "0d89bb515d3a98d2f60ced739538188020528699bce7b24b7142b37f689d8e2d", func := "loop.example/g00409/laws.FnExactRootBound", spec := "fnExactRootBound", unfollowed := true, recurses := true, apart := false, narrowed := true }
def FnExactRootBoundUptoSaid : Prop := fnExactRootBoundUptoRow.holds Tryz.pinned (OpenSpec.upto fnExactRootBoundSpec)

/-- 'laws.FnExactBudanCount', WHERE WHAT IT READS IS OF BULK AT MOST 1048576: true; the input reads as it did. -/
def fnExactBudanCountUptoRow : OpenClaim := { program := "ytliaddmkomcmnaagreat", sum := "0d89bb515d3a98d2f60ced739538188020528699bce7b24b7142b37f689d8e2d", func := "loop.example/g00409/laws.FnExactBudanCount", spec := "fnExactBudanCount", unfollowed := true, recurses := true, apart := false, narrowed := true }
def FnExactBudanCountUptoSaid : Prop := fnExactBudanCountUptoRow.holds Tryz.pinned (OpenSpec.upto fnExactBudanCountSpec)

end Rows
end Go.Proofs.YtliaddmkomcmnaaGreat
