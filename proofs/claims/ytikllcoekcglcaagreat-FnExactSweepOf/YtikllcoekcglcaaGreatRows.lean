/-
  No cell of these rows narrows 'for every input' (looked for: loops, veiled, ifaces, maps, wideKeys, modest, calm, conditions, laid).
  DERIVED. THE GIVEN ROWS OF THIS SEAT. 14 by the template 'for every input the law returns true; each argument reads behind the call as it read before'; 0 by the template 'total and deterministic' (their statements: YtikllcoekcglcaaGreatTotals.lean).
  GIVEN WITH THE SEED: the statements are not yours to turn. If you find one false, say at which input.
  Laid BY PROGRAM, IN A SANDBOX (cutbox-rows.mjs): the forced cells as the released guide's own fill.sh prints them over the translation e678501a20116d86… (all of the seat's roots in one cut). By AI agents, Wed Nov 11 2026. No macro, syntax, notation, axiom, sorry.
-/
import Derived.Test.YtikllcoekcglcaaGreatChecked
import GoSem.Claim
import GoSem.ClaimJoined
import GoSem.ClaimMapViews
import Derived.JoinedTies
import Derived.KernelRfl
namespace Go.Proofs.YtikllcoekcglcaaGreat
/- THE CELL 'sum', in the pinned program and in every row, IS THE sha256 OF THE DUMP (.gsa) THAT YtikllcoekcglcaaGreatProg.lean LOADS. Nothing in Lean hashes anything: it is a label: what it is worth is what the hold of that sum in a sandbox is worth. -/
noncomputable def Tryz.pinned : Pinned := { name := "ytikllcoekcglcaagreat", sum := "e678501a20116d866089810cfa4b36292102f02b727e74f880eb839d7a5bf863", checked := Tryz.checked }
namespace Rows
def none {H : Type} : Left H := { results := [], args := [] }

/-- 'laws.FnCurves': WHATEVER THE INPUT: true; the input reads as it did. -/
def fnCurvesSpec : ChangeSpec := { name := "fnCurves", fn := fun _ => fun
  | [d1, d2] => { results := [.lit (.bool true)], args := [d1, d2] }
  | _ => none }
def fnCurvesRow : OpenClaim := { program := "ytikllcoekcglcaagreat", sum := "e678501a20116d866089810cfa4b36292102f02b727e74f880eb839d7a5bf863", func := "loop.example/g00409/laws.FnCurves", spec := "fnCurves", unfollowed := true, recurses := true, apart := false }
def FnCurvesSaid : Prop := fnCurvesRow.holds Tryz.pinned (OpenSpec.ofChange fnCurvesSpec)

/-- ITS FALSE NEIGHBOUR: 'it returns false'. Refute it at one input. -/
def fnCurvesWrong : ChangeSpec := { name := "fnCurves", fn := fun _ => fun
  | [d1, d2] => { results := [.lit (.bool false)], args := [d1, d2] }
  | _ => none }
def FnCurvesWrongFalsely : Prop := fnCurvesRow.holds Tryz.pinned (OpenSpec.ofChange fnCurvesWrong)

/-- 'laws.FnSweeps': WHATEVER THE INPUT: true; the input reads as it did. -/
def fnSweepsSpec : ChangeSpec := { name := "fnSweeps", fn := fun _ => fun
  | [d1, d2] => { results := [.lit (.bool true)], args := [d1, d2] }
  | _ => none }
def fnSweepsRow : OpenClaim := { program := "ytikllcoekcglcaagreat", sum := "e678501a20116d866089810cfa4b36292102f02b727e74f880eb839d7a5bf863", func := "loop.example/g00409/laws.FnSweeps", spec := "fnSweeps", unfollowed := true, recurses := true, apart := false }
def FnSweepsSaid : Prop := fnSweepsRow.holds Tryz.pinned (OpenSpec.ofChange fnSweepsSpec)

/-- ITS FALSE NEIGHBOUR: 'it returns false'. Refute it at one input. -/
def fnSweepsWrong : ChangeSpec := { name := "fnSweeps", fn := fun _ => fun
  | [d1, d2] => { results := [.lit (.bool false)], args := [d1, d2] }
  | _ => none }
def FnSweepsWrongFalsely : Prop := fnSweepsRow.holds Tryz.pinned (OpenSpec.ofChange fnSweepsWrong)

/-- 'laws.FnClips': WHATEVER THE INPUT: true; the input reads as it did. -/
def fnClipsSpec : ChangeSpec := { name := "fnClips", fn := fun _ => fun
  | [d1, d2] => { results := [.lit (.bool true)], args := [d1, d2] }
  | _ => none }
def fnClipsRow : OpenClaim := { program := "ytikllcoekcglcaagreat", sum := "e678501a20116d866089810cfa4b36292102f02b727e74f880eb839d7a5bf863", func := "loop.example/g00409/laws.FnClips", spec := "fnClips", unfollowed := true, recurses := true, apart := false }
def FnClipsSaid : Prop := fnClipsRow.holds Tryz.pinned (OpenSpec.ofChange fnClipsSpec)

/-- ITS FALSE NEIGHBOUR: 'it returns false'. Refute it at one input. -/
def fnClipsWrong : ChangeSpec := { name := "fnClips", fn := fun _ => fun
  | [d1, d2] => { results := [.lit (.bool false)], args := [d1, d2] }
  | _ => none }
def FnClipsWrongFalsely : Prop := fnClipsRow.holds Tryz.pinned (OpenSpec.ofChange fnClipsWrong)

/-- 'laws.FnBoxes': WHATEVER THE INPUT: true; the input reads as it did. -/
def fnBoxesSpec : ChangeSpec := { name := "fnBoxes", fn := fun _ => fun
  | [d1, d2] => { results := [.lit (.bool true)], args := [d1, d2] }
  | _ => none }
def fnBoxesRow : OpenClaim := { program := "ytikllcoekcglcaagreat", sum := "e678501a20116d866089810cfa4b36292102f02b727e74f880eb839d7a5bf863", func := "loop.example/g00409/laws.FnBoxes", spec := "fnBoxes", unfollowed := true, recurses := true, apart := false }
def FnBoxesSaid : Prop := fnBoxesRow.holds Tryz.pinned (OpenSpec.ofChange fnBoxesSpec)

/-- ITS FALSE NEIGHBOUR: 'it returns false'. Refute it at one input. -/
def fnBoxesWrong : ChangeSpec := { name := "fnBoxes", fn := fun _ => fun
  | [d1, d2] => { results := [.lit (.bool false)], args := [d1, d2] }
  | _ => none }
def FnBoxesWrongFalsely : Prop := fnBoxesRow.holds Tryz.pinned (OpenSpec.ofChange fnBoxesWrong)

/-- 'laws.FnExactCurveAt': WHATEVER THE INPUT: true; the input reads as it did. -/
def fnExactCurveAtSpec : ChangeSpec := { name := "fnExactCurveAt", fn := fun _ => fun
  | [d1, d2] => { results := [.lit (.bool true)], args := [d1, d2] }
  | _ => none }
def fnExactCurveAtRow : OpenClaim := { program := "ytikllcoekcglcaagreat", sum := "e678501a20116d866089810cfa4b36292102f02b727e74f880eb839d7a5bf863", func := "loop.example/g00409/laws.FnExactCurveAt", spec := "fnExactCurveAt", unfollowed := true, recurses := true, apart := false }
def FnExactCurveAtSaid : Prop := fnExactCurveAtRow.holds Tryz.pinned (OpenSpec.ofChange fnExactCurveAtSpec)

/-- ITS FALSE NEIGHBOUR: 'it returns false'. Refute it at one input. -/
def fnExactCurveAtWrong : ChangeSpec := { name := "fnExactCurveAt", fn := fun _ => fun
  | [d1, d2] => { results := [.lit (.bool false)], args := [d1, d2] }
  | _ => none }
def FnExactCurveAtWrongFalsely : Prop := fnExactCurveAtRow.holds Tryz.pinned (OpenSpec.ofChange fnExactCurveAtWrong)

/-- 'laws.FnExactSplitCurve': WHATEVER THE INPUT: true; the input reads as it did. -/
def fnExactSplitCurveSpec : ChangeSpec := { name := "fnExactSplitCurve", fn := fun _ => fun
  | [d1, d2] => { results := [.lit (.bool true)], args := [d1, d2] }
  | _ => none }
def fnExactSplitCurveRow : OpenClaim := { program := "ytikllcoekcglcaagreat", sum := "e678501a20116d866089810cfa4b36292102f02b727e74f880eb839d7a5bf863", func := "loop.example/g00409/laws.FnExactSplitCurve", spec := "fnExactSplitCurve", unfollowed := true, recurses := true, apart := false }
def FnExactSplitCurveSaid : Prop := fnExactSplitCurveRow.holds Tryz.pinned (OpenSpec.ofChange fnExactSplitCurveSpec)

/-- ITS FALSE NEIGHBOUR: 'it returns false'. Refute it at one input. -/
def fnExactSplitCurveWrong : ChangeSpec := { name := "fnExactSplitCurve", fn := fun _ => fun
  | [d1, d2] => { results := [.lit (.bool false)], args := [d1, d2] }
  | _ => none }
def FnExactSplitCurveWrongFalsely : Prop := fnExactSplitCurveRow.holds Tryz.pinned (OpenSpec.ofChange fnExactSplitCurveWrong)

/-- 'laws.FnExactRaiseCurve': WHATEVER THE INPUT: true; the input reads as it did. -/
def fnExactRaiseCurveSpec : ChangeSpec := { name := "fnExactRaiseCurve", fn := fun _ => fun
  | [d] => { results := [.lit (.bool true)], args := [d] }
  | _ => none }
def fnExactRaiseCurveRow : OpenClaim := { program := "ytikllcoekcglcaagreat", sum := "e678501a20116d866089810cfa4b36292102f02b727e74f880eb839d7a5bf863", func := "loop.example/g00409/laws.FnExactRaiseCurve", spec := "fnExactRaiseCurve", unfollowed := true, recurses := true, apart := false }
def FnExactRaiseCurveSaid : Prop := fnExactRaiseCurveRow.holds Tryz.pinned (OpenSpec.ofChange fnExactRaiseCurveSpec)

/-- ITS FALSE NEIGHBOUR: 'it returns false'. Refute it at one input. -/
def fnExactRaiseCurveWrong : ChangeSpec := { name := "fnExactRaiseCurve", fn := fun _ => fun
  | [d] => { results := [.lit (.bool false)], args := [d] }
  | _ => none }
def FnExactRaiseCurveWrongFalsely : Prop := fnExactRaiseCurveRow.holds Tryz.pinned (OpenSpec.ofChange fnExactRaiseCurveWrong)

/-- 'laws.FnExactPowersOf': WHATEVER THE INPUT: true; the input reads as it did. -/
def fnExactPowersOfSpec : ChangeSpec := { name := "fnExactPowersOf", fn := fun _ => fun
  | [d] => { results := [.lit (.bool true)], args := [d] }
  | _ => none }
def fnExactPowersOfRow : OpenClaim := { program := "ytikllcoekcglcaagreat", sum := "e678501a20116d866089810cfa4b36292102f02b727e74f880eb839d7a5bf863", func := "loop.example/g00409/laws.FnExactPowersOf", spec := "fnExactPowersOf", unfollowed := true, recurses := true, apart := false }
def FnExactPowersOfSaid : Prop := fnExactPowersOfRow.holds Tryz.pinned (OpenSpec.ofChange fnExactPowersOfSpec)

/-- ITS FALSE NEIGHBOUR: 'it returns false'. Refute it at one input. -/
def fnExactPowersOfWrong : ChangeSpec := { name := "fnExactPowersOf", fn := fun _ => fun
  | [d] => { results := [.lit (.bool false)], args := [d] }
  | _ => none }
def FnExactPowersOfWrongFalsely : Prop := fnExactPowersOfRow.holds Tryz.pinned (OpenSpec.ofChange fnExactPowersOfWrong)

/-- 'laws.FnExactSweepOf': WHATEVER THE INPUT: true; the input reads as it did. -/
def fnExactSweepOfSpec : ChangeSpec := { name := "fnExactSweepOf", fn := fun _ => fun
  | [d] => { results := [.lit (.bool true)], args := [d] }
  | _ => none }
def fnExactSweepOfRow : OpenClaim := { program := "ytikllcoekcglcaagreat", sum := "e678501a20116d866089810cfa4b36292102f02b727e74f880eb839d7a5bf863", func := "loop.example/g00409/laws.FnExactSweepOf", spec := "fnExactSweepOf", unfollowed := true, recurses := true, apart := false }
def FnExactSweepOfSaid : Prop := fnExactSweepOfRow.holds Tryz.pinned (OpenSpec.ofChange fnExactSweepOfSpec)

/-- ITS FALSE NEIGHBOUR: 'it returns false'. Refute it at one input. -/
def fnExactSweepOfWrong : ChangeSpec := { name := "fnExactSweepOf", fn := fun _ => fun
  | [d] => { results := [.lit (.bool false)], args := [d] }
  | _ => none }
def FnExactSweepOfWrongFalsely : Prop := fnExactSweepOfRow.holds Tryz.pinned (OpenSpec.ofChange fnExactSweepOfWrong)

/-- 'laws.FnExactMixPt': WHATEVER THE INPUT: true; the input reads as it did. -/
def fnExactMixPtSpec : ChangeSpec := { name := "fnExactMixPt", fn := fun _ => fun
  | [d1, d2, d3] => { results := [.lit (.bool true)], args := [d1, d2, d3] }
  | _ => none }
def fnExactMixPtRow : OpenClaim := { program := "ytikllcoekcglcaagreat", sum := "e678501a20116d866089810cfa4b36292102f02b727e74f880eb839d7a5bf863", func := "loop.example/g00409/laws.FnExactMixPt", spec := "fnExactMixPt", unfollowed := true, recurses := true, apart := false }
def FnExactMixPtSaid : Prop := fnExactMixPtRow.holds Tryz.pinned (OpenSpec.ofChange fnExactMixPtSpec)

/-- ITS FALSE NEIGHBOUR: 'it returns false'. Refute it at one input. -/
def fnExactMixPtWrong : ChangeSpec := { name := "fnExactMixPt", fn := fun _ => fun
  | [d1, d2, d3] => { results := [.lit (.bool false)], args := [d1, d2, d3] }
  | _ => none }
def FnExactMixPtWrongFalsely : Prop := fnExactMixPtRow.holds Tryz.pinned (OpenSpec.ofChange fnExactMixPtWrong)

/-- 'laws.FnExactRingArea': WHATEVER THE INPUT: true; the input reads as it did. -/
def fnExactRingAreaSpec : ChangeSpec := { name := "fnExactRingArea", fn := fun _ => fun
  | [d] => { results := [.lit (.bool true)], args := [d] }
  | _ => none }
def fnExactRingAreaRow : OpenClaim := { program := "ytikllcoekcglcaagreat", sum := "e678501a20116d866089810cfa4b36292102f02b727e74f880eb839d7a5bf863", func := "loop.example/g00409/laws.FnExactRingArea", spec := "fnExactRingArea", unfollowed := true, recurses := true, apart := false }
def FnExactRingAreaSaid : Prop := fnExactRingAreaRow.holds Tryz.pinned (OpenSpec.ofChange fnExactRingAreaSpec)

/-- ITS FALSE NEIGHBOUR: 'it returns false'. Refute it at one input. -/
def fnExactRingAreaWrong : ChangeSpec := { name := "fnExactRingArea", fn := fun _ => fun
  | [d] => { results := [.lit (.bool false)], args := [d] }
  | _ => none }
def FnExactRingAreaWrongFalsely : Prop := fnExactRingAreaRow.holds Tryz.pinned (OpenSpec.ofChange fnExactRingAreaWrong)

/-- 'laws.FnExactClipLow': WHATEVER THE INPUT: true; the input reads as it did. -/
def fnExactClipLowSpec : ChangeSpec := { name := "fnExactClipLow", fn := fun _ => fun
  | [d1, d2, d3] => { results := [.lit (.bool true)], args := [d1, d2, d3] }
  | _ => none }
def fnExactClipLowRow : OpenClaim := { program := "ytikllcoekcglcaagreat", sum := "e678501a20116d866089810cfa4b36292102f02b727e74f880eb839d7a5bf863", func := "loop.example/g00409/laws.FnExactClipLow", spec := "fnExactClipLow", unfollowed := true, recurses := true, apart := false }
def FnExactClipLowSaid : Prop := fnExactClipLowRow.holds Tryz.pinned (OpenSpec.ofChange fnExactClipLowSpec)

/-- ITS FALSE NEIGHBOUR: 'it returns false'. Refute it at one input. -/
def fnExactClipLowWrong : ChangeSpec := { name := "fnExactClipLow", fn := fun _ => fun
  | [d1, d2, d3] => { results := [.lit (.bool false)], args := [d1, d2, d3] }
  | _ => none }
def FnExactClipLowWrongFalsely : Prop := fnExactClipLowRow.holds Tryz.pinned (OpenSpec.ofChange fnExactClipLowWrong)

/-- 'laws.FnExactClipHigh': WHATEVER THE INPUT: true; the input reads as it did. -/
def fnExactClipHighSpec : ChangeSpec := { name := "fnExactClipHigh", fn := fun _ => fun
  | [d1, d2, d3] => { results := [.lit (.bool true)], args := [d1, d2, d3] }
  | _ => none }
def fnExactClipHighRow : OpenClaim := { program := "ytikllcoekcglcaagreat", sum := "e678501a20116d866089810cfa4b36292102f02b727e74f880eb839d7a5bf863", func := "loop.example/g00409/laws.FnExactClipHigh", spec := "fnExactClipHigh", unfollowed := true, recurses := true, apart := false }
def FnExactClipHighSaid : Prop := fnExactClipHighRow.holds Tryz.pinned (OpenSpec.ofChange fnExactClipHighSpec)

/-- ITS FALSE NEIGHBOUR: 'it returns false'. Refute it at one input. -/
def fnExactClipHighWrong : ChangeSpec := { name := "fnExactClipHigh", fn := fun _ => fun
  | [d1, d2, d3] => { results := [.lit (.bool false)], args := [d1, d2, d3] }
  | _ => none }
def FnExactClipHighWrongFalsely : Prop := fnExactClipHighRow.holds Tryz.pinned (OpenSpec.ofChange fnExactClipHighWrong)

/-- 'laws.FnExactClipBox': WHATEVER THE INPUT: true; the input reads as it did. -/
def fnExactClipBoxSpec : ChangeSpec := { name := "fnExactClipBox", fn := fun _ => fun
  | [d1, d2, d3] => { results := [.lit (.bool true)], args := [d1, d2, d3] }
  | _ => none }
def fnExactClipBoxRow : OpenClaim := { program := "ytikllcoekcglcaagreat", sum := "e678501a20116d866089810cfa4b36292102f02b727e74f880eb839d7a5bf863", func := "loop.example/g00409/laws.FnExactClipBox", spec := "fnExactClipBox", unfollowed := true, recurses := true, apart := false }
def FnExactClipBoxSaid : Prop := fnExactClipBoxRow.holds Tryz.pinned (OpenSpec.ofChange fnExactClipBoxSpec)

/-- ITS FALSE NEIGHBOUR: 'it returns false'. Refute it at one input. -/
def fnExactClipBoxWrong : ChangeSpec := { name := "fnExactClipBox", fn := fun _ => fun
  | [d1, d2, d3] => { results := [.lit (.bool false)], args := [d1, d2, d3] }
  | _ => none }
def FnExactClipBoxWrongFalsely : Prop := fnExactClipBoxRow.holds Tryz.pinned (OpenSpec.ofChange fnExactClipBoxWrong)

/- THE SECOND FORM. 'bulk': how many values and letters a reading holds, each counted each time it is reached (what is shared counts as often as it is met; a slice's spare places count too). A statement '..UptoSaid' is the law's where the arguments, and the package variables that the reading takes, are together of bulk at most 1048576: NARROWER than '..Said'. Prove '..Said' where nothing that the law and all that it calls make is longer than what came in: it says more and counts as full. Else prove '..UptoSaid'. A law counts once. -/
mutual
def uptoBulk {H : Type} : DataW H → Nat
  | .lit (.string bytes) => bytes.length + 1
  | .lit _ => 1
  | .nil => 1
  | .ptr d => uptoBulk d + 1
  | .slice elems spare => uptoBulkAll elems + uptoBulkAll spare + 1
  | .agg parts => uptoBulkAll parts + 1
  | .iface _ d => uptoBulk d + 1
  | .map entries => uptoBulkEntries entries + 1
  | .held _ => 1
def uptoBulkAll {H : Type} : List (DataW H) → Nat
  | [] => 0
  | d :: r => uptoBulk d + uptoBulkAll r
def uptoBulkEntries {H : Type} : List (Lit × DataW H) → Nat
  | [] => 0
  | x :: r => uptoBulkEntry x + uptoBulkEntries r
def uptoBulkEntry {H : Type} : Lit × DataW H → Nat
  | (.string bytes, d) => bytes.length + uptoBulk d + 1
  | (_, d) => uptoBulk d + 1
 end
def uptoSmall : (H : Type) → List (DataW H) → Bool := fun _ ds => decide (uptoBulkAll ds ≤ 1048576)
def OpenSpec.upto (s : _root_.Go.ChangeSpec) : _root_.Go.OpenSpec := { _root_.Go.OpenSpec.ofChange s with cond := some uptoSmall }

/-- 'laws.FnCurves', WHERE WHAT IT READS IS OF BULK AT MOST 1048576: true; the input reads as it did. -/
def fnCurvesUptoRow : OpenClaim := { program := "ytikllcoekcglcaagreat", sum := "e678501a20116d866089810cfa4b36292102f02b727e74f880eb839d7a5bf863", func := "loop.example/g00409/laws.FnCurves", spec := "fnCurves", unfollowed := true, recurses := true, apart := false, narrowed := true }
def FnCurvesUptoSaid : Prop := fnCurvesUptoRow.holds Tryz.pinned (OpenSpec.upto fnCurvesSpec)

/-- 'laws.FnSweeps', WHERE WHAT IT READS IS OF BULK AT MOST 1048576: true; the input reads as it did. -/
def fnSweepsUptoRow : OpenClaim := { program := "ytikllcoekcglcaagreat", sum := "e678501a20116d866089810cfa4b36292102f02b727e74f880eb839d7a5bf863", func := "loop.example/g00409/laws.FnSweeps", spec := "fnSweeps", unfollowed := true, recurses := true, apart := false, narrowed := true }
def FnSweepsUptoSaid : Prop := fnSweepsUptoRow.holds Tryz.pinned (OpenSpec.upto fnSweepsSpec)

/-- 'laws.FnClips', WHERE WHAT IT READS IS OF BULK AT MOST 1048576: true; the input reads as it did. -/
def fnClipsUptoRow : OpenClaim := { program := "ytikllcoekcglcaagreat", sum := "e678501a20116d866089810cfa4b36292102f02b727e74f880eb839d7a5bf863", func := "loop.example/g00409/laws.FnClips", spec := "fnClips", unfollowed := true, recurses := true, apart := false, narrowed := true }
def FnClipsUptoSaid : Prop := fnClipsUptoRow.holds Tryz.pinned (OpenSpec.upto fnClipsSpec)

/-- 'laws.FnBoxes', WHERE WHAT IT READS IS OF BULK AT MOST 1048576: true; the input reads as it did. -/
def fnBoxesUptoRow : OpenClaim := { program := "ytikllcoekcglcaagreat", sum := "e678501a20116d866089810cfa4b36292102f02b727e74f880eb839d7a5bf863", func := "loop.example/g00409/laws.FnBoxes", spec := "fnBoxes", unfollowed := true, recurses := true, apart := false, narrowed := true }
def FnBoxesUptoSaid : Prop := fnBoxesUptoRow.holds Tryz.pinned (OpenSpec.upto fnBoxesSpec)

/-- 'laws.FnExactCurveAt', WHERE WHAT IT READS IS OF BULK AT MOST 1048576: true; the input reads as it did. -/
def fnExactCurveAtUptoRow : OpenClaim := { program := "ytikllcoekcglcaagreat", sum := "e678501a20116d866089810cfa4b36292102f02b727e74f880eb839d7a5bf863", func := "loop.example/g00409/laws.FnExactCurveAt", spec := "fnExactCurveAt", unfollowed := true, recurses := true, apart := false, narrowed := true }
def FnExactCurveAtUptoSaid : Prop := fnExactCurveAtUptoRow.holds Tryz.pinned (OpenSpec.upto fnExactCurveAtSpec)

/-- 'laws.FnExactSplitCurve', WHERE WHAT IT READS IS OF BULK AT MOST 1048576: true; the input reads as it did. -/
def fnExactSplitCurveUptoRow : OpenClaim := { program := "ytikllcoekcglcaagreat", sum := "e678501a20116d866089810cfa4b36292102f02b727e74f880eb839d7a5bf863", func := "loop.example/g00409/laws.FnExactSplitCurve", spec := "fnExactSplitCurve", unfollowed := true, recurses := true, apart := false, narrowed := true }
def FnExactSplitCurveUptoSaid : Prop := fnExactSplitCurveUptoRow.holds Tryz.pinned (OpenSpec.upto fnExactSplitCurveSpec)

/-- 'laws.FnExactRaiseCurve', WHERE WHAT IT READS IS OF BULK AT MOST 1048576: true; the input reads as it did. -/
def fnExactRaiseCurveUptoRow : OpenClaim := { program := "ytikllcoekcglcaagreat", sum := "e678501a20116d866089810cfa4b36292102f02b727e74f880eb839d7a5bf863", func := "loop.example/g00409/laws.FnExactRaiseCurve", spec := "fnExactRaiseCurve", unfollowed := true, recurses := true, apart := false, narrowed := true }
def FnExactRaiseCurveUptoSaid : Prop := fnExactRaiseCurveUptoRow.holds Tryz.pinned (OpenSpec.upto fnExactRaiseCurveSpec)

/-- 'laws.FnExactPowersOf', WHERE WHAT IT READS IS OF BULK AT MOST 1048576: true; the input reads as it did. -/
def fnExactPowersOfUptoRow : OpenClaim := { program := "ytikllcoekcglcaagreat", sum := "e678501a20116d866089810cfa4b36292102f02b727e74f880eb839d7a5bf863", func := "loop.example/g00409/laws.FnExactPowersOf", spec := "fnExactPowersOf", unfollowed := true, recurses := true, apart := false, narrowed := true }
def FnExactPowersOfUptoSaid : Prop := fnExactPowersOfUptoRow.holds Tryz.pinned (OpenSpec.upto fnExactPowersOfSpec)

/-- 'laws.FnExactSweepOf', WHERE WHAT IT READS IS OF BULK AT MOST 1048576: true; the input reads as it did. -/
def fnExactSweepOfUptoRow : OpenClaim := { program := "ytikllcoekcglcaagreat", sum := "e678501a20116d866089810cfa4b36292102f02b727e74f880eb839d7a5bf863", func := "loop.example/g00409/laws.FnExactSweepOf", spec := "fnExactSweepOf", unfollowed := true, recurses := true, apart := false, narrowed := true }
def FnExactSweepOfUptoSaid : Prop := fnExactSweepOfUptoRow.holds Tryz.pinned (OpenSpec.upto fnExactSweepOfSpec)

/-- 'laws.FnExactMixPt', WHERE WHAT IT READS IS OF BULK AT MOST 1048576: true; the input reads as it did. -/
def fnExactMixPtUptoRow : OpenClaim := { program := "ytikllcoekcglcaagreat", sum := "e678501a20116d866089810cfa4b36292102f02b727e74f880eb839d7a5bf863", func := "loop.example/g00409/laws.FnExactMixPt", spec := "fnExactMixPt", unfollowed := true, recurses := true, apart := false, narrowed := true }
def FnExactMixPtUptoSaid : Prop := fnExactMixPtUptoRow.holds Tryz.pinned (OpenSpec.upto fnExactMixPtSpec)

/-- 'laws.FnExactRingArea', WHERE WHAT IT READS IS OF BULK AT MOST 1048576: true; the input reads as it did. -/
def fnExactRingAreaUptoRow : OpenClaim := { program := "ytikllcoekcglcaagreat", sum := "e678501a20116d866089810cfa4b36292102f02b727e74f880eb839d7a5bf863", func := "loop.example/g00409/laws.FnExactRingArea", spec := "fnExactRingArea", unfollowed := true, recurses := true, apart := false, narrowed := true }
def FnExactRingAreaUptoSaid : Prop := fnExactRingAreaUptoRow.holds Tryz.pinned (OpenSpec.upto fnExactRingAreaSpec)

/-- 'laws.FnExactClipLow', WHERE WHAT IT READS IS OF BULK AT MOST 1048576: true; the input reads as it did. -/
def fnExactClipLowUptoRow : OpenClaim := { program := "ytikllcoekcglcaagreat", sum := "e678501a20116d866089810cfa4b36292102f02b727e74f880eb839d7a5bf863", func := "loop.example/g00409/laws.FnExactClipLow", spec := "fnExactClipLow", unfollowed := true, recurses := true, apart := false, narrowed := true }
def FnExactClipLowUptoSaid : Prop := fnExactClipLowUptoRow.holds Tryz.pinned (OpenSpec.upto fnExactClipLowSpec)

/-- 'laws.FnExactClipHigh', WHERE WHAT IT READS IS OF BULK AT MOST 1048576: true; the input reads as it did. -/
def fnExactClipHighUptoRow : OpenClaim := { program := "ytikllcoekcglcaagreat", sum := "e678501a20116d866089810cfa4b36292102f02b727e74f880eb839d7a5bf863", func := "loop.example/g00409/laws.FnExactClipHigh", spec := "fnExactClipHigh", unfollowed := true, recurses := true, apart := false, narrowed := true }
def FnExactClipHighUptoSaid : Prop := fnExactClipHighUptoRow.holds Tryz.pinned (OpenSpec.upto fnExactClipHighSpec)

/-- 'laws.FnExactClipBox', WHERE WHAT IT READS IS OF BULK AT MOST 1048576: true; the input reads as it did. -/
def fnExactClipBoxUptoRow : OpenClaim := { program := "ytikllcoekcglcaagreat", sum := "e678501a20116d866089810cfa4b36292102f02b727e74f880eb839d7a5bf863", func := "loop.example/g00409/laws.FnExactClipBox", spec := "fnExactClipBox", unfollowed := true, recurses := true, apart := false, narrowed := true }
def FnExactClipBoxUptoSaid : Prop := fnExactClipBoxUptoRow.holds Tryz.pinned (OpenSpec.upto fnExactClipBoxSpec)

end Rows
end Go.Proofs.YtikllcoekcglcaaGreat
