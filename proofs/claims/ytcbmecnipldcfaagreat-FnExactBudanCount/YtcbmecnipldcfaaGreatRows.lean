/-
  No cell of these rows narrows 'for every input' (looked for: loops, veiled, ifaces, maps, wideKeys, modest, calm, conditions, laid).
  DERIVED. THE GIVEN ROWS OF THIS SEAT. 3 by the template 'for every input the law returns true; each argument reads behind the call as it read before'; 0 by the template 'total and deterministic' (their statements: YtcbmecnipldcfaaGreatTotals.lean).
  GIVEN WITH THE SEED: the statements are not yours to turn. If you find one false, say at which input.
  Laid BY PROGRAM, IN A SANDBOX (cutbox-rows.mjs): the forced cells as the released guide's own fill.sh prints them over the translation 4bb7b04fd2339473… (all of the seat's roots in one cut). By AI agents, Wed Nov 11 2026. No macro, syntax, notation, axiom, sorry.
-/
import Derived.Test.YtcbmecnipldcfaaGreatChecked
import GoSem.Claim
import GoSem.ClaimJoined
import GoSem.ClaimMapViews
import Derived.JoinedTies
import Derived.KernelRfl
namespace Go.Proofs.YtcbmecnipldcfaaGreat
/- THE CELL 'sum', in the pinned program and in every row, IS THE sha256 OF THE DUMP (.gsa) THAT YtcbmecnipldcfaaGreatProg.lean LOADS. Nothing in Lean hashes anything: it is a label: what it is worth is what the hold of that sum in a sandbox is worth. -/
noncomputable def Tryz.pinned : Pinned := { name := "ytcbmecnipldcfaagreat", sum := "4bb7b04fd2339473e8f6427879799f43affc00b5a6712c8fab89571655bd58e3", checked := Tryz.checked }
namespace Rows
def none {H : Type} : Left H := { results := [], args := [] }

/-- 'laws.FnExactRoundOut': WHATEVER THE INPUT: true; the input reads as it did. -/
def fnExactRoundOutSpec : ChangeSpec := { name := "fnExactRoundOut", fn := fun _ => fun
  | [d1, d2] => { results := [.lit (.bool true)], args := [d1, d2] }
  | _ => none }
def fnExactRoundOutRow : OpenClaim := { program := "ytcbmecnipldcfaagreat", sum := "4bb7b04fd2339473e8f6427879799f43affc00b5a6712c8fab89571655bd58e3", func := "loop.example/g00409/laws.FnExactRoundOut", spec := "fnExactRoundOut", unfollowed := true, recurses := true, apart := false }
def FnExactRoundOutSaid : Prop := fnExactRoundOutRow.holds Tryz.pinned (OpenSpec.ofChange fnExactRoundOutSpec)

/-- ITS FALSE NEIGHBOUR: 'it returns false'. Refute it at one input. -/
def fnExactRoundOutWrong : ChangeSpec := { name := "fnExactRoundOut", fn := fun _ => fun
  | [d1, d2] => { results := [.lit (.bool false)], args := [d1, d2] }
  | _ => none }
def FnExactRoundOutWrongFalsely : Prop := fnExactRoundOutRow.holds Tryz.pinned (OpenSpec.ofChange fnExactRoundOutWrong)

/-- 'laws.FnExactShiftPoly': WHATEVER THE INPUT: true; the input reads as it did. -/
def fnExactShiftPolySpec : ChangeSpec := { name := "fnExactShiftPoly", fn := fun _ => fun
  | [d1, d2] => { results := [.lit (.bool true)], args := [d1, d2] }
  | _ => none }
def fnExactShiftPolyRow : OpenClaim := { program := "ytcbmecnipldcfaagreat", sum := "4bb7b04fd2339473e8f6427879799f43affc00b5a6712c8fab89571655bd58e3", func := "loop.example/g00409/laws.FnExactShiftPoly", spec := "fnExactShiftPoly", unfollowed := true, recurses := true, apart := false }
def FnExactShiftPolySaid : Prop := fnExactShiftPolyRow.holds Tryz.pinned (OpenSpec.ofChange fnExactShiftPolySpec)

/-- ITS FALSE NEIGHBOUR: 'it returns false'. Refute it at one input. -/
def fnExactShiftPolyWrong : ChangeSpec := { name := "fnExactShiftPoly", fn := fun _ => fun
  | [d1, d2] => { results := [.lit (.bool false)], args := [d1, d2] }
  | _ => none }
def FnExactShiftPolyWrongFalsely : Prop := fnExactShiftPolyRow.holds Tryz.pinned (OpenSpec.ofChange fnExactShiftPolyWrong)

/-- 'laws.FnExactBudanCount': WHATEVER THE INPUT: true; the input reads as it did. -/
def fnExactBudanCountSpec : ChangeSpec := { name := "fnExactBudanCount", fn := fun _ => fun
  | [d1, d2, d3] => { results := [.lit (.bool true)], args := [d1, d2, d3] }
  | _ => none }
def fnExactBudanCountRow : OpenClaim := { program := "ytcbmecnipldcfaagreat", sum := "4bb7b04fd2339473e8f6427879799f43affc00b5a6712c8fab89571655bd58e3", func := "loop.example/g00409/laws.FnExactBudanCount", spec := "fnExactBudanCount", unfollowed := true, recurses := true, apart := false }
def FnExactBudanCountSaid : Prop := fnExactBudanCountRow.holds Tryz.pinned (OpenSpec.ofChange fnExactBudanCountSpec)

/-- ITS FALSE NEIGHBOUR: 'it returns false'. Refute it at one input. -/
def fnExactBudanCountWrong : ChangeSpec := { name := "fnExactBudanCount", fn := fun _ => fun
  | [d1, d2, d3] => { results := [.lit (.bool false)], args := [d1, d2, d3] }
  | _ => none }
def FnExactBudanCountWrongFalsely : Prop := fnExactBudanCountRow.holds Tryz.pinned (OpenSpec.ofChange fnExactBudanCountWrong)

/- THE SECOND FORM. 'bulk': how many values and letters a reading holds, each counted each time it is reached (what is shared counts as often as it is met; a slice's spare places count too). A statement '..UptoSaid' is the law's where the arguments, and the package variables that the reading takes, are together of bulk at most 1048576: NARROWER than '..Said'. Prove '..Said' where nothing that the law and all that it calls make is longer than what came in: it says more and counts as full. Else prove '..UptoSaid'. A law counts once. -/
mutual
def uptoBulk {H : Type} : DataW H → Nat
  | .lit (.string bytes) => bytes.length + 1
  | .lit _ => 1
  | .nil => 1
  | .ptr d => uptoBulk d + 1
  | .slice elems spare => uptoBulkAll elems + uptoBulkAll spare + 1
  | .agg parts => uptoBulkAll parts + 1
  | .iface _ d => uptoBulk d + 1
  | .map entries => uptoBulkEntries entries + 1
  | .held _ => 1
def uptoBulkAll {H : Type} : List (DataW H) → Nat
  | [] => 0
  | d :: r => uptoBulk d + uptoBulkAll r
def uptoBulkEntries {H : Type} : List (Lit × DataW H) → Nat
  | [] => 0
  | x :: r => uptoBulkEntry x + uptoBulkEntries r
def uptoBulkEntry {H : Type} : Lit × DataW H → Nat
  | (.string bytes, d) => bytes.length + uptoBulk d + 1
  | (_, d) => uptoBulk d + 1
 end
def uptoSmall : (H : Type) → List (DataW H) → Bool := fun _ ds => decide (uptoBulkAll ds ≤ 1048576)
def OpenSpec.upto (s : _root_.Go.ChangeSpec) : _root_.Go.OpenSpec := { _root_.Go.OpenSpec.ofChange s with cond := some uptoSmall }

/-- 'laws.FnExactRoundOut', WHERE WHAT IT READS IS OF BULK AT MOST 1048576: true; the input reads as it did. -/
def fnExactRoundOutUptoRow : OpenClaim := { program := "ytcbmecnipldcfaagreat", sum := "4bb7b04fd2339473e8f6427879799f43affc00b5a6712c8fab89571655bd58e3", func := "loop.example/g00409/laws.FnExactRoundOut", spec := "fnExactRoundOut", unfollowed := true, recurses := true, apart := false, narrowed := true }
def FnExactRoundOutUptoSaid : Prop := fnExactRoundOutUptoRow.holds Tryz.pinned (OpenSpec.upto fnExactRoundOutSpec)

/-- 'laws.FnExactShiftPoly', WHERE WHAT IT READS IS OF BULK AT MOST 1048576: true; the input reads as it did. -/
def fnExactShiftPolyUptoRow : OpenClaim := { program := "ytcbmecnipldcfaagreat", sum := "4bb7b04fd2339473e8f6427879799f43affc00b5a6712c8fab89571655bd58e3", func := "loop.example/g00409/laws.FnExactShiftPoly", spec := "fnExactShiftPoly", unfollowed := true, recurses := true, apart := false, narrowed := true }
def FnExactShiftPolyUptoSaid : Prop := fnExactShiftPolyUptoRow.holds Tryz.pinned (OpenSpec.upto fnExactShiftPolySpec)

/-- 'laws.FnExactBudanCount', WHERE WHAT IT READS IS OF BULK AT MOST 1048576: true; the input reads as it did. -/
def fnExactBudanCountUptoRow : OpenClaim := { program := "ytcbmecnipldcfaagreat", sum := "4bb7b04fd2339473e8f6427879799f43affc00b5a6712c8fab89571655bd58e3", func := "loop.example/g00409/laws.FnExactBudanCount", spec := "fnExactBudanCount", unfollowed := true, recurses := true, apart := false, narrowed := true }
def FnExactBudanCountUptoSaid : Prop := fnExactBudanCountUptoRow.holds Tryz.pinned (OpenSpec.upto fnExactBudanCountSpec)

end Rows
end Go.Proofs.YtcbmecnipldcfaaGreat
