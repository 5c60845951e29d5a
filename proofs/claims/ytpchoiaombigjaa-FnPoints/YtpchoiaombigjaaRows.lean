/-
  No cell of these rows narrows 'for every input' (looked for: loops, veiled, ifaces, maps, wideKeys, modest, calm, conditions, laid).
  DERIVED. THE GIVEN ROWS OF THIS SEAT. 13 by the template 'for every input the law returns true; each argument reads behind the call as it read before'; 0 by the template 'total and deterministic' (their statements: YtpchoiaombigjaaTotals.lean).
  GIVEN WITH THE SEED: the statements are not yours to turn. If you find one false, say at which input.
  Laid BY PROGRAM, IN A SANDBOX (cutbox-rows.mjs): the forced cells as the released guide's own fill.sh prints them over the translation 96e23e3200d7fd78… (all of the seat's roots in one cut). By AI agents, Wed Nov 11 2026. No macro, syntax, notation, axiom, sorry.
-/
import Derived.Test.YtpchoiaombigjaaChecked
import GoSem.Claim
import GoSem.ClaimJoined
import GoSem.ClaimMapViews
import Derived.JoinedTies
import Derived.KernelRfl
namespace Go.Proofs.Ytpchoiaombigjaa
/- THE CELL 'sum', in the pinned program and in every row, IS THE sha256 OF THE DUMP (.gsa) THAT YtpchoiaombigjaaProg.lean LOADS. Nothing in Lean hashes anything: it is a label: what it is worth is what the hold of that sum in a sandbox is worth. -/
noncomputable def Try.pinned : Pinned := { name := "ytpchoiaombigjaa", sum := "96e23e3200d7fd78bfa4cc314b485ddc64fa7fa5c21423a49c8d6df8a637669b", checked := Try.checked }
namespace Rows
def none {H : Type} : Left H := { results := [], args := [] }

/-- 'laws.FnPoints': WHATEVER THE INPUT: true; the input reads as it did. -/
def fnPointsSpec : ChangeSpec := { name := "fnPoints", fn := fun _ => fun
  | [d1, d2] => { results := [.lit (.bool true)], args := [d1, d2] }
  | _ => none }
def fnPointsRow : OpenClaim := { program := "ytpchoiaombigjaa", sum := "96e23e3200d7fd78bfa4cc314b485ddc64fa7fa5c21423a49c8d6df8a637669b", func := "loop.example/g00409/laws.FnPoints", spec := "fnPoints", unfollowed := true, recurses := true, plainKeys := false, apart := false }
def FnPointsSaid : Prop := fnPointsRow.holds Try.pinned (OpenSpec.ofChange fnPointsSpec)

/-- ITS FALSE NEIGHBOUR: 'it returns false'. Refute it at one input. -/
def fnPointsWrong : ChangeSpec := { name := "fnPoints", fn := fun _ => fun
  | [d1, d2] => { results := [.lit (.bool false)], args := [d1, d2] }
  | _ => none }
def FnPointsWrongFalsely : Prop := fnPointsRow.holds Try.pinned (OpenSpec.ofChange fnPointsWrong)

/-- 'laws.FnPick': WHATEVER THE INPUT: true; the input reads as it did. -/
def fnPickSpec : ChangeSpec := { name := "fnPick", fn := fun _ => fun
  | [d1, d2] => { results := [.lit (.bool true)], args := [d1, d2] }
  | _ => none }
def fnPickRow : OpenClaim := { program := "ytpchoiaombigjaa", sum := "96e23e3200d7fd78bfa4cc314b485ddc64fa7fa5c21423a49c8d6df8a637669b", func := "loop.example/g00409/laws.FnPick", spec := "fnPick", plainKeys := false, apart := false }
def FnPickSaid : Prop := fnPickRow.holds Try.pinned (OpenSpec.ofChange fnPickSpec)

/-- ITS FALSE NEIGHBOUR: 'it returns false'. Refute it at one input. -/
def fnPickWrong : ChangeSpec := { name := "fnPick", fn := fun _ => fun
  | [d1, d2] => { results := [.lit (.bool false)], args := [d1, d2] }
  | _ => none }
def FnPickWrongFalsely : Prop := fnPickRow.holds Try.pinned (OpenSpec.ofChange fnPickWrong)

/-- 'laws.FnExactGoodPt': WHATEVER THE INPUT: true; the input reads as it did. -/
def fnExactGoodPtSpec : ChangeSpec := { name := "fnExactGoodPt", fn := fun _ => fun
  | [d] => { results := [.lit (.bool true)], args := [d] }
  | _ => none }
def fnExactGoodPtRow : OpenClaim := { program := "ytpchoiaombigjaa", sum := "96e23e3200d7fd78bfa4cc314b485ddc64fa7fa5c21423a49c8d6df8a637669b", func := "loop.example/g00409/laws.FnExactGoodPt", spec := "fnExactGoodPt", plainKeys := false, apart := false }
def FnExactGoodPtSaid : Prop := fnExactGoodPtRow.holds Try.pinned (OpenSpec.ofChange fnExactGoodPtSpec)

/-- ITS FALSE NEIGHBOUR: 'it returns false'. Refute it at one input. -/
def fnExactGoodPtWrong : ChangeSpec := { name := "fnExactGoodPt", fn := fun _ => fun
  | [d] => { results := [.lit (.bool false)], args := [d] }
  | _ => none }
def FnExactGoodPtWrongFalsely : Prop := fnExactGoodPtRow.holds Try.pinned (OpenSpec.ofChange fnExactGoodPtWrong)

/-- 'laws.FnExactOrient': WHATEVER THE INPUT: true; the input reads as it did. -/
def fnExactOrientSpec : ChangeSpec := { name := "fnExactOrient", fn := fun _ => fun
  | [d1, d2, d3] => { results := [.lit (.bool true)], args := [d1, d2, d3] }
  | _ => none }
def fnExactOrientRow : OpenClaim := { program := "ytpchoiaombigjaa", sum := "96e23e3200d7fd78bfa4cc314b485ddc64fa7fa5c21423a49c8d6df8a637669b", func := "loop.example/g00409/laws.FnExactOrient", spec := "fnExactOrient", plainKeys := false, apart := false }
def FnExactOrientSaid : Prop := fnExactOrientRow.holds Try.pinned (OpenSpec.ofChange fnExactOrientSpec)

/-- ITS FALSE NEIGHBOUR: 'it returns false'. Refute it at one input. -/
def fnExactOrientWrong : ChangeSpec := { name := "fnExactOrient", fn := fun _ => fun
  | [d1, d2, d3] => { results := [.lit (.bool false)], args := [d1, d2, d3] }
  | _ => none }
def FnExactOrientWrongFalsely : Prop := fnExactOrientRow.holds Try.pinned (OpenSpec.ofChange fnExactOrientWrong)

/-- 'laws.FnExactOnSegment': WHATEVER THE INPUT: true; the input reads as it did. -/
def fnExactOnSegmentSpec : ChangeSpec := { name := "fnExactOnSegment", fn := fun _ => fun
  | [d1, d2, d3] => { results := [.lit (.bool true)], args := [d1, d2, d3] }
  | _ => none }
def fnExactOnSegmentRow : OpenClaim := { program := "ytpchoiaombigjaa", sum := "96e23e3200d7fd78bfa4cc314b485ddc64fa7fa5c21423a49c8d6df8a637669b", func := "loop.example/g00409/laws.FnExactOnSegment", spec := "fnExactOnSegment", plainKeys := false, apart := false }
def FnExactOnSegmentSaid : Prop := fnExactOnSegmentRow.holds Try.pinned (OpenSpec.ofChange fnExactOnSegmentSpec)

/-- ITS FALSE NEIGHBOUR: 'it returns false'. Refute it at one input. -/
def fnExactOnSegmentWrong : ChangeSpec := { name := "fnExactOnSegment", fn := fun _ => fun
  | [d1, d2, d3] => { results := [.lit (.bool false)], args := [d1, d2, d3] }
  | _ => none }
def FnExactOnSegmentWrongFalsely : Prop := fnExactOnSegmentRow.holds Try.pinned (OpenSpec.ofChange fnExactOnSegmentWrong)

/-- 'laws.FnExactSegmentsMeet': WHATEVER THE INPUT: true; the input reads as it did. -/
def fnExactSegmentsMeetSpec : ChangeSpec := { name := "fnExactSegmentsMeet", fn := fun _ => fun
  | [d1, d2, d3, d4] => { results := [.lit (.bool true)], args := [d1, d2, d3, d4] }
  | _ => none }
def fnExactSegmentsMeetRow : OpenClaim := { program := "ytpchoiaombigjaa", sum := "96e23e3200d7fd78bfa4cc314b485ddc64fa7fa5c21423a49c8d6df8a637669b", func := "loop.example/g00409/laws.FnExactSegmentsMeet", spec := "fnExactSegmentsMeet", plainKeys := false, apart := false }
def FnExactSegmentsMeetSaid : Prop := fnExactSegmentsMeetRow.holds Try.pinned (OpenSpec.ofChange fnExactSegmentsMeetSpec)

/-- ITS FALSE NEIGHBOUR: 'it returns false'. Refute it at one input. -/
def fnExactSegmentsMeetWrong : ChangeSpec := { name := "fnExactSegmentsMeet", fn := fun _ => fun
  | [d1, d2, d3, d4] => { results := [.lit (.bool false)], args := [d1, d2, d3, d4] }
  | _ => none }
def FnExactSegmentsMeetWrongFalsely : Prop := fnExactSegmentsMeetRow.holds Try.pinned (OpenSpec.ofChange fnExactSegmentsMeetWrong)

/-- 'laws.FnExactAreaTwice': WHATEVER THE INPUT: true; the input reads as it did. -/
def fnExactAreaTwiceSpec : ChangeSpec := { name := "fnExactAreaTwice", fn := fun _ => fun
  | [d] => { results := [.lit (.bool true)], args := [d] }
  | _ => none }
def fnExactAreaTwiceRow : OpenClaim := { program := "ytpchoiaombigjaa", sum := "96e23e3200d7fd78bfa4cc314b485ddc64fa7fa5c21423a49c8d6df8a637669b", func := "loop.example/g00409/laws.FnExactAreaTwice", spec := "fnExactAreaTwice", plainKeys := false, apart := false }
def FnExactAreaTwiceSaid : Prop := fnExactAreaTwiceRow.holds Try.pinned (OpenSpec.ofChange fnExactAreaTwiceSpec)

/-- ITS FALSE NEIGHBOUR: 'it returns false'. Refute it at one input. -/
def fnExactAreaTwiceWrong : ChangeSpec := { name := "fnExactAreaTwice", fn := fun _ => fun
  | [d] => { results := [.lit (.bool false)], args := [d] }
  | _ => none }
def FnExactAreaTwiceWrongFalsely : Prop := fnExactAreaTwiceRow.holds Try.pinned (OpenSpec.ofChange fnExactAreaTwiceWrong)

/-- 'laws.FnExactBorderPoints': WHATEVER THE INPUT: true; the input reads as it did. -/
def fnExactBorderPointsSpec : ChangeSpec := { name := "fnExactBorderPoints", fn := fun _ => fun
  | [d] => { results := [.lit (.bool true)], args := [d] }
  | _ => none }
def fnExactBorderPointsRow : OpenClaim := { program := "ytpchoiaombigjaa", sum := "96e23e3200d7fd78bfa4cc314b485ddc64fa7fa5c21423a49c8d6df8a637669b", func := "loop.example/g00409/laws.FnExactBorderPoints", spec := "fnExactBorderPoints", plainKeys := false, apart := false }
def FnExactBorderPointsSaid : Prop := fnExactBorderPointsRow.holds Try.pinned (OpenSpec.ofChange fnExactBorderPointsSpec)

/-- ITS FALSE NEIGHBOUR: 'it returns false'. Refute it at one input. -/
def fnExactBorderPointsWrong : ChangeSpec := { name := "fnExactBorderPoints", fn := fun _ => fun
  | [d] => { results := [.lit (.bool false)], args := [d] }
  | _ => none }
def FnExactBorderPointsWrongFalsely : Prop := fnExactBorderPointsRow.holds Try.pinned (OpenSpec.ofChange fnExactBorderPointsWrong)

/-- 'laws.FnExactIsSimple': WHATEVER THE INPUT: true; the input reads as it did. -/
def fnExactIsSimpleSpec : ChangeSpec := { name := "fnExactIsSimple", fn := fun _ => fun
  | [d] => { results := [.lit (.bool true)], args := [d] }
  | _ => none }
def fnExactIsSimpleRow : OpenClaim := { program := "ytpchoiaombigjaa", sum := "96e23e3200d7fd78bfa4cc314b485ddc64fa7fa5c21423a49c8d6df8a637669b", func := "loop.example/g00409/laws.FnExactIsSimple", spec := "fnExactIsSimple", plainKeys := false, apart := false }
def FnExactIsSimpleSaid : Prop := fnExactIsSimpleRow.holds Try.pinned (OpenSpec.ofChange fnExactIsSimpleSpec)

/-- ITS FALSE NEIGHBOUR: 'it returns false'. Refute it at one input. -/
def fnExactIsSimpleWrong : ChangeSpec := { name := "fnExactIsSimple", fn := fun _ => fun
  | [d] => { results := [.lit (.bool false)], args := [d] }
  | _ => none }
def FnExactIsSimpleWrongFalsely : Prop := fnExactIsSimpleRow.holds Try.pinned (OpenSpec.ofChange fnExactIsSimpleWrong)

/-- 'laws.FnExactInnerPoints': WHATEVER THE INPUT: true; the input reads as it did. -/
def fnExactInnerPointsSpec : ChangeSpec := { name := "fnExactInnerPoints", fn := fun _ => fun
  | [d] => { results := [.lit (.bool true)], args := [d] }
  | _ => none }
def fnExactInnerPointsRow : OpenClaim := { program := "ytpchoiaombigjaa", sum := "96e23e3200d7fd78bfa4cc314b485ddc64fa7fa5c21423a49c8d6df8a637669b", func := "loop.example/g00409/laws.FnExactInnerPoints", spec := "fnExactInnerPoints", plainKeys := false, apart := false }
def FnExactInnerPointsSaid : Prop := fnExactInnerPointsRow.holds Try.pinned (OpenSpec.ofChange fnExactInnerPointsSpec)

/-- ITS FALSE NEIGHBOUR: 'it returns false'. Refute it at one input. -/
def fnExactInnerPointsWrong : ChangeSpec := { name := "fnExactInnerPoints", fn := fun _ => fun
  | [d] => { results := [.lit (.bool false)], args := [d] }
  | _ => none }
def FnExactInnerPointsWrongFalsely : Prop := fnExactInnerPointsRow.holds Try.pinned (OpenSpec.ofChange fnExactInnerPointsWrong)

/-- 'laws.FnExactGcdInt': WHATEVER THE INPUT: true; the input reads as it did. -/
def fnExactGcdIntSpec : ChangeSpec := { name := "fnExactGcdInt", fn := fun _ => fun
  | [d1, d2] => { results := [.lit (.bool true)], args := [d1, d2] }
  | _ => none }
def fnExactGcdIntRow : OpenClaim := { program := "ytpchoiaombigjaa", sum := "96e23e3200d7fd78bfa4cc314b485ddc64fa7fa5c21423a49c8d6df8a637669b", func := "loop.example/g00409/laws.FnExactGcdInt", spec := "fnExactGcdInt", plainKeys := false, apart := false }
def FnExactGcdIntSaid : Prop := fnExactGcdIntRow.holds Try.pinned (OpenSpec.ofChange fnExactGcdIntSpec)

/-- ITS FALSE NEIGHBOUR: 'it returns false'. Refute it at one input. -/
def fnExactGcdIntWrong : ChangeSpec := { name := "fnExactGcdInt", fn := fun _ => fun
  | [d1, d2] => { results := [.lit (.bool false)], args := [d1, d2] }
  | _ => none }
def FnExactGcdIntWrongFalsely : Prop := fnExactGcdIntRow.holds Try.pinned (OpenSpec.ofChange fnExactGcdIntWrong)

/-- 'laws.FnExactTurnAll': WHATEVER THE INPUT: true; the input reads as it did. -/
def fnExactTurnAllSpec : ChangeSpec := { name := "fnExactTurnAll", fn := fun _ => fun
  | [d] => { results := [.lit (.bool true)], args := [d] }
  | _ => none }
def fnExactTurnAllRow : OpenClaim := { program := "ytpchoiaombigjaa", sum := "96e23e3200d7fd78bfa4cc314b485ddc64fa7fa5c21423a49c8d6df8a637669b", func := "loop.example/g00409/laws.FnExactTurnAll", spec := "fnExactTurnAll", plainKeys := false, apart := false }
def FnExactTurnAllSaid : Prop := fnExactTurnAllRow.holds Try.pinned (OpenSpec.ofChange fnExactTurnAllSpec)

/-- ITS FALSE NEIGHBOUR: 'it returns false'. Refute it at one input. -/
def fnExactTurnAllWrong : ChangeSpec := { name := "fnExactTurnAll", fn := fun _ => fun
  | [d] => { results := [.lit (.bool false)], args := [d] }
  | _ => none }
def FnExactTurnAllWrongFalsely : Prop := fnExactTurnAllRow.holds Try.pinned (OpenSpec.ofChange fnExactTurnAllWrong)

/-- 'laws.FnExactMovePts': WHATEVER THE INPUT: true; the input reads as it did. -/
def fnExactMovePtsSpec : ChangeSpec := { name := "fnExactMovePts", fn := fun _ => fun
  | [d1, d2] => { results := [.lit (.bool true)], args := [d1, d2] }
  | _ => none }
def fnExactMovePtsRow : OpenClaim := { program := "ytpchoiaombigjaa", sum := "96e23e3200d7fd78bfa4cc314b485ddc64fa7fa5c21423a49c8d6df8a637669b", func := "loop.example/g00409/laws.FnExactMovePts", spec := "fnExactMovePts", unfollowed := true, recurses := true, plainKeys := false, apart := false }
def FnExactMovePtsSaid : Prop := fnExactMovePtsRow.holds Try.pinned (OpenSpec.ofChange fnExactMovePtsSpec)

/-- ITS FALSE NEIGHBOUR: 'it returns false'. Refute it at one input. -/
def fnExactMovePtsWrong : ChangeSpec := { name := "fnExactMovePts", fn := fun _ => fun
  | [d1, d2] => { results := [.lit (.bool false)], args := [d1, d2] }
  | _ => none }
def FnExactMovePtsWrongFalsely : Prop := fnExactMovePtsRow.holds Try.pinned (OpenSpec.ofChange fnExactMovePtsWrong)

/- THE SECOND FORM. 'bulk': how many values and letters a reading holds, each counted each time it is reached (what is shared counts as often as it is met; a slice's spare places count too). A statement '..UptoSaid' is the law's where the arguments, and the package variables that the reading takes, are together of bulk at most 1048576: NARROWER than '..Said'. Prove '..Said' where nothing that the law and all that it calls make is longer than what came in: it says more and counts as full. Else prove '..UptoSaid'. A law counts once. -/
mutual
def uptoBulk {H : Type} : DataW H → Nat
  | .lit (.string bytes) => bytes.length + 1
  | .lit _ => 1
  | .nil => 1
  | .ptr d => uptoBulk d + 1
  | .slice elems spare => uptoBulkAll elems + uptoBulkAll spare + 1
  | .agg parts => uptoBulkAll parts + 1
  | .iface _ d => uptoBulk d + 1
  | .map entries => uptoBulkEntries entries + 1
  | .held _ => 1
def uptoBulkAll {H : Type} : List (DataW H) → Nat
  | [] => 0
  | d :: r => uptoBulk d + uptoBulkAll r
def uptoBulkEntries {H : Type} : List (Lit × DataW H) → Nat
  | [] => 0
  | x :: r => uptoBulkEntry x + uptoBulkEntries r
def uptoBulkEntry {H : Type} : Lit × DataW H → Nat
  | (.string bytes, d) => bytes.length + uptoBulk d + 1
  | (_, d) => uptoBulk d + 1
 end
def uptoSmall : (H : Type) → List (DataW H) → Bool := fun _ ds => decide (uptoBulkAll ds ≤ 1048576)
def OpenSpec.upto (s : _root_.Go.ChangeSpec) : _root_.Go.OpenSpec := { _root_.Go.OpenSpec.ofChange s with cond := some uptoSmall }

/-- 'laws.FnPoints', WHERE WHAT IT READS IS OF BULK AT MOST 1048576: true; the input reads as it did. -/
def fnPointsUptoRow : OpenClaim := { program := "ytpchoiaombigjaa", sum := "96e23e3200d7fd78bfa4cc314b485ddc64fa7fa5c21423a49c8d6df8a637669b", func := "loop.example/g00409/laws.FnPoints", spec := "fnPoints", unfollowed := true, recurses := true, plainKeys := false, apart := false, narrowed := true }
def FnPointsUptoSaid : Prop := fnPointsUptoRow.holds Try.pinned (OpenSpec.upto fnPointsSpec)

/-- 'laws.FnPick', WHERE WHAT IT READS IS OF BULK AT MOST 1048576: true; the input reads as it did. -/
def fnPickUptoRow : OpenClaim := { program := "ytpchoiaombigjaa", sum := "96e23e3200d7fd78bfa4cc314b485ddc64fa7fa5c21423a49c8d6df8a637669b", func := "loop.example/g00409/laws.FnPick", spec := "fnPick", plainKeys := false, apart := false, narrowed := true }
def FnPickUptoSaid : Prop := fnPickUptoRow.holds Try.pinned (OpenSpec.upto fnPickSpec)

/-- 'laws.FnExactGoodPt', WHERE WHAT IT READS IS OF BULK AT MOST 1048576: true; the input reads as it did. -/
def fnExactGoodPtUptoRow : OpenClaim := { program := "ytpchoiaombigjaa", sum := "96e23e3200d7fd78bfa4cc314b485ddc64fa7fa5c21423a49c8d6df8a637669b", func := "loop.example/g00409/laws.FnExactGoodPt", spec := "fnExactGoodPt", plainKeys := false, apart := false, narrowed := true }
def FnExactGoodPtUptoSaid : Prop := fnExactGoodPtUptoRow.holds Try.pinned (OpenSpec.upto fnExactGoodPtSpec)

/-- 'laws.FnExactOrient', WHERE WHAT IT READS IS OF BULK AT MOST 1048576: true; the input reads as it did. -/
def fnExactOrientUptoRow : OpenClaim := { program := "ytpchoiaombigjaa", sum := "96e23e3200d7fd78bfa4cc314b485ddc64fa7fa5c21423a49c8d6df8a637669b", func := "loop.example/g00409/laws.FnExactOrient", spec := "fnExactOrient", plainKeys := false, apart := false, narrowed := true }
def FnExactOrientUptoSaid : Prop := fnExactOrientUptoRow.holds Try.pinned (OpenSpec.upto fnExactOrientSpec)

/-- 'laws.FnExactOnSegment', WHERE WHAT IT READS IS OF BULK AT MOST 1048576: true; the input reads as it did. -/
def fnExactOnSegmentUptoRow : OpenClaim := { program := "ytpchoiaombigjaa", sum := "96e23e3200d7fd78bfa4cc314b485ddc64fa7fa5c21423a49c8d6df8a637669b", func := "loop.example/g00409/laws.FnExactOnSegment", spec := "fnExactOnSegment", plainKeys := false, apart := false, narrowed := true }
def FnExactOnSegmentUptoSaid : Prop := fnExactOnSegmentUptoRow.holds Try.pinned (OpenSpec.upto fnExactOnSegmentSpec)

/-- 'laws.FnExactSegmentsMeet', WHERE WHAT IT READS IS OF BULK AT MOST 1048576: true; the input reads as it did. -/
def fnExactSegmentsMeetUptoRow : OpenClaim := { program := "ytpchoiaombigjaa", sum := "96e23e3200d7fd78bfa4cc314b485ddc64fa7fa5c21423a49c8d6df8a637669b", func := "loop.example/g00409/laws.FnExactSegmentsMeet", spec := "fnExactSegmentsMeet", plainKeys := false, apart := false, narrowed := true }
def FnExactSegmentsMeetUptoSaid : Prop := fnExactSegmentsMeetUptoRow.holds Try.pinned (OpenSpec.upto fnExactSegmentsMeetSpec)

/-- 'laws.FnExactAreaTwice', WHERE WHAT IT READS IS OF BULK AT MOST 1048576: true; the input reads as it did. -/
def fnExactAreaTwiceUptoRow : OpenClaim := { program := "ytpchoiaombigjaa", sum := "96e23e3200d7fd78bfa4cc314b485ddc64fa7fa5c21423a49c8d6df8a637669b", func := "loop.example/g00409/laws.FnExactAreaTwice", spec := "fnExactAreaTwice", plainKeys := false, apart := false, narrowed := true }
def FnExactAreaTwiceUptoSaid : Prop := fnExactAreaTwiceUptoRow.holds Try.pinned (OpenSpec.upto fnExactAreaTwiceSpec)

/-- 'laws.FnExactBorderPoints', WHERE WHAT IT READS IS OF BULK AT MOST 1048576: true; the input reads as it did. -/
def fnExactBorderPointsUptoRow : OpenClaim := { program := "ytpchoiaombigjaa", sum := "96e23e3200d7fd78bfa4cc314b485ddc64fa7fa5c21423a49c8d6df8a637669b", func := "loop.example/g00409/laws.FnExactBorderPoints", spec := "fnExactBorderPoints", plainKeys := false, apart := false, narrowed := true }
def FnExactBorderPointsUptoSaid : Prop := fnExactBorderPointsUptoRow.holds Try.pinned (OpenSpec.upto fnExactBorderPointsSpec)

/-- 'laws.FnExactIsSimple', WHERE WHAT IT READS IS OF BULK AT MOST 1048576: true; the input reads as it did. -/
def fnExactIsSimpleUptoRow : OpenClaim := { program := "ytpchoiaombigjaa", sum := "96e23e3200d7fd78bfa4cc314b485ddc64fa7fa5c21423a49c8d6df8a637669b", func := "loop.example/g00409/laws.FnExactIsSimple", spec := "fnExactIsSimple", plainKeys := false, apart := false, narrowed := true }
def FnExactIsSimpleUptoSaid : Prop := fnExactIsSimpleUptoRow.holds Try.pinned (OpenSpec.upto fnExactIsSimpleSpec)

/-- 'laws.FnExactInnerPoints', WHERE WHAT IT READS IS OF BULK AT MOST 1048576: true; the input reads as it did. -/
def fnExactInnerPointsUptoRow : OpenClaim := { program := "ytpchoiaombigjaa", sum := "96e23e3200d7fd78bfa4cc314b485ddc64fa7fa5c21423a49c8d6df8a637669b", func := "loop.example/g00409/laws.FnExactInnerPoints", spec := "fnExactInnerPoints", plainKeys := false, apart := false, narrowed := true }
def FnExactInnerPointsUptoSaid : Prop := fnExactInnerPointsUptoRow.holds Try.pinned (OpenSpec.upto fnExactInnerPointsSpec)

/-- 'laws.FnExactGcdInt', WHERE WHAT IT READS IS OF BULK AT MOST 1048576: true; the input reads as it did. -/
def fnExactGcdIntUptoRow : OpenClaim := { program := "ytpchoiaombigjaa", sum := "96e23e3200d7fd78bfa4cc314b485ddc64fa7fa5c21423a49c8d6df8a637669b", func := "loop.example/g00409/laws.FnExactGcdInt", spec := "fnExactGcdInt", plainKeys := false, apart := false, narrowed := true }
def FnExactGcdIntUptoSaid : Prop := fnExactGcdIntUptoRow.holds Try.pinned (OpenSpec.upto fnExactGcdIntSpec)

/-- 'laws.FnExactTurnAll', WHERE WHAT IT READS IS OF BULK AT MOST 1048576: true; the input reads as it did. -/
def fnExactTurnAllUptoRow : OpenClaim := { program := "ytpchoiaombigjaa", sum := "96e23e3200d7fd78bfa4cc314b485ddc64fa7fa5c21423a49c8d6df8a637669b", func := "loop.example/g00409/laws.FnExactTurnAll", spec := "fnExactTurnAll", plainKeys := false, apart := false, narrowed := true }
def FnExactTurnAllUptoSaid : Prop := fnExactTurnAllUptoRow.holds Try.pinned (OpenSpec.upto fnExactTurnAllSpec)

/-- 'laws.FnExactMovePts', WHERE WHAT IT READS IS OF BULK AT MOST 1048576: true; the input reads as it did. -/
def fnExactMovePtsUptoRow : OpenClaim := { program := "ytpchoiaombigjaa", sum := "96e23e3200d7fd78bfa4cc314b485ddc64fa7fa5c21423a49c8d6df8a637669b", func := "loop.example/g00409/laws.FnExactMovePts", spec := "fnExactMovePts", unfollowed := true, recurses := true, plainKeys := false, apart := false, narrowed := true }
def FnExactMovePtsUptoSaid : Prop := fnExactMovePtsUptoRow.holds Try.pinned (OpenSpec.upto fnExactMovePtsSpec)

end Rows
end Go.Proofs.Ytpchoiaombigjaa
