/-
  No cell of these rows narrows 'for every input' (looked for: loops, veiled, ifaces, maps, wideKeys, modest, calm, conditions, laid).
  DERIVED. THE GIVEN ROWS OF THIS SEAT. 9 by the template 'for every input the law returns true; each argument reads behind the call as it read before'; 0 by the template 'total and deterministic' (their statements: YtgoiodhofbkkdaaTotals.lean).
  GIVEN WITH THE SEED: the statements are not yours to turn. If you find one false, say at which input.
  Laid BY PROGRAM, IN A SANDBOX (cutbox-rows.mjs): the forced cells as the released guide's own fill.sh prints them over the translation d1750e196677fe17… (all of the seat's roots in one cut). By AI agents, Wed Nov 11 2026. No macro, syntax, notation, axiom, sorry.
-/
import Derived.Test.YtgoiodhofbkkdaaChecked
import GoSem.Claim
import GoSem.ClaimJoined
import GoSem.ClaimMapViews
import Derived.JoinedTies
import Derived.KernelRfl
namespace Go.Proofs.Ytgoiodhofbkkdaa
/- THE CELL 'sum', in the pinned program and in every row, IS THE sha256 OF THE DUMP (.gsa) THAT YtgoiodhofbkkdaaProg.lean LOADS. Nothing in Lean hashes anything: it is a label: what it is worth is what the hold of that sum in a sandbox is worth. -/
noncomputable def Try.pinned : Pinned := { name := "ytgoiodhofbkkdaa", sum := "d1750e196677fe17b8f5cc432b6b83308563787baa411403b07e3a0ab7889bc8", checked := Try.checked }
namespace Rows
def none {H : Type} : Left H := { results := [], args := [] }

/-- 'laws.FnHulls': WHATEVER THE INPUT: true; the input reads as it did. -/
def fnHullsSpec : ChangeSpec := { name := "fnHulls", fn := fun _ => fun
  | [d1, d2] => { results := [.lit (.bool true)], args := [d1, d2] }
  | _ => none }
def fnHullsRow : OpenClaim := { program := "ytgoiodhofbkkdaa", sum := "d1750e196677fe17b8f5cc432b6b83308563787baa411403b07e3a0ab7889bc8", func := "loop.example/g00409/laws.FnHulls", spec := "fnHulls", inPlace := ["slices.overlaps[loop.example/g00409/impl.Pt]"], unfollowed := true, recurses := true, plainKeys := false, apart := false }
def FnHullsSaid : Prop := fnHullsRow.holds Try.pinned (OpenSpec.ofChange fnHullsSpec)

/-- ITS FALSE NEIGHBOUR: 'it returns false'. Refute it at one input. -/
def fnHullsWrong : ChangeSpec := { name := "fnHulls", fn := fun _ => fun
  | [d1, d2] => { results := [.lit (.bool false)], args := [d1, d2] }
  | _ => none }
def FnHullsWrongFalsely : Prop := fnHullsRow.holds Try.pinned (OpenSpec.ofChange fnHullsWrong)

/-- 'laws.FnConvex': WHATEVER THE INPUT: true; the input reads as it did. -/
def fnConvexSpec : ChangeSpec := { name := "fnConvex", fn := fun _ => fun
  | [d1, d2] => { results := [.lit (.bool true)], args := [d1, d2] }
  | _ => none }
def fnConvexRow : OpenClaim := { program := "ytgoiodhofbkkdaa", sum := "d1750e196677fe17b8f5cc432b6b83308563787baa411403b07e3a0ab7889bc8", func := "loop.example/g00409/laws.FnConvex", spec := "fnConvex", inPlace := ["slices.overlaps[loop.example/g00409/impl.Pt]"], unfollowed := true, recurses := true, plainKeys := false, apart := false }
def FnConvexSaid : Prop := fnConvexRow.holds Try.pinned (OpenSpec.ofChange fnConvexSpec)

/-- ITS FALSE NEIGHBOUR: 'it returns false'. Refute it at one input. -/
def fnConvexWrong : ChangeSpec := { name := "fnConvex", fn := fun _ => fun
  | [d1, d2] => { results := [.lit (.bool false)], args := [d1, d2] }
  | _ => none }
def FnConvexWrongFalsely : Prop := fnConvexRow.holds Try.pinned (OpenSpec.ofChange fnConvexWrong)

/-- 'laws.FnExactHullOf': WHATEVER THE INPUT: true; the input reads as it did. -/
def fnExactHullOfSpec : ChangeSpec := { name := "fnExactHullOf", fn := fun _ => fun
  | [d] => { results := [.lit (.bool true)], args := [d] }
  | _ => none }
def fnExactHullOfRow : OpenClaim := { program := "ytgoiodhofbkkdaa", sum := "d1750e196677fe17b8f5cc432b6b83308563787baa411403b07e3a0ab7889bc8", func := "loop.example/g00409/laws.FnExactHullOf", spec := "fnExactHullOf", inPlace := ["slices.overlaps[loop.example/g00409/impl.Pt]"], unfollowed := true, recurses := true, plainKeys := false, apart := false }
def FnExactHullOfSaid : Prop := fnExactHullOfRow.holds Try.pinned (OpenSpec.ofChange fnExactHullOfSpec)

/-- ITS FALSE NEIGHBOUR: 'it returns false'. Refute it at one input. -/
def fnExactHullOfWrong : ChangeSpec := { name := "fnExactHullOf", fn := fun _ => fun
  | [d] => { results := [.lit (.bool false)], args := [d] }
  | _ => none }
def FnExactHullOfWrongFalsely : Prop := fnExactHullOfRow.holds Try.pinned (OpenSpec.ofChange fnExactHullOfWrong)

/-- 'laws.FnExactIsHull': WHATEVER THE INPUT: true; the input reads as it did. -/
def fnExactIsHullSpec : ChangeSpec := { name := "fnExactIsHull", fn := fun _ => fun
  | [d1, d2] => { results := [.lit (.bool true)], args := [d1, d2] }
  | _ => none }
def fnExactIsHullRow : OpenClaim := { program := "ytgoiodhofbkkdaa", sum := "d1750e196677fe17b8f5cc432b6b83308563787baa411403b07e3a0ab7889bc8", func := "loop.example/g00409/laws.FnExactIsHull", spec := "fnExactIsHull", inPlace := ["slices.overlaps[loop.example/g00409/impl.Pt]"], unfollowed := true, recurses := true, plainKeys := false, apart := false }
def FnExactIsHullSaid : Prop := fnExactIsHullRow.holds Try.pinned (OpenSpec.ofChange fnExactIsHullSpec)

/-- ITS FALSE NEIGHBOUR: 'it returns false'. Refute it at one input. -/
def fnExactIsHullWrong : ChangeSpec := { name := "fnExactIsHull", fn := fun _ => fun
  | [d1, d2] => { results := [.lit (.bool false)], args := [d1, d2] }
  | _ => none }
def FnExactIsHullWrongFalsely : Prop := fnExactIsHullRow.holds Try.pinned (OpenSpec.ofChange fnExactIsHullWrong)

/-- 'laws.FnExactIsConvex': WHATEVER THE INPUT: true; the input reads as it did. -/
def fnExactIsConvexSpec : ChangeSpec := { name := "fnExactIsConvex", fn := fun _ => fun
  | [d] => { results := [.lit (.bool true)], args := [d] }
  | _ => none }
def fnExactIsConvexRow : OpenClaim := { program := "ytgoiodhofbkkdaa", sum := "d1750e196677fe17b8f5cc432b6b83308563787baa411403b07e3a0ab7889bc8", func := "loop.example/g00409/laws.FnExactIsConvex", spec := "fnExactIsConvex", inPlace := ["slices.overlaps[loop.example/g00409/impl.Pt]"], unfollowed := true, recurses := true, plainKeys := false, apart := false }
def FnExactIsConvexSaid : Prop := fnExactIsConvexRow.holds Try.pinned (OpenSpec.ofChange fnExactIsConvexSpec)

/-- ITS FALSE NEIGHBOUR: 'it returns false'. Refute it at one input. -/
def fnExactIsConvexWrong : ChangeSpec := { name := "fnExactIsConvex", fn := fun _ => fun
  | [d] => { results := [.lit (.bool false)], args := [d] }
  | _ => none }
def FnExactIsConvexWrongFalsely : Prop := fnExactIsConvexRow.holds Try.pinned (OpenSpec.ofChange fnExactIsConvexWrong)

/-- 'laws.FnExactHasPt': WHATEVER THE INPUT: true; the input reads as it did. -/
def fnExactHasPtSpec : ChangeSpec := { name := "fnExactHasPt", fn := fun _ => fun
  | [d1, d2] => { results := [.lit (.bool true)], args := [d1, d2] }
  | _ => none }
def fnExactHasPtRow : OpenClaim := { program := "ytgoiodhofbkkdaa", sum := "d1750e196677fe17b8f5cc432b6b83308563787baa411403b07e3a0ab7889bc8", func := "loop.example/g00409/laws.FnExactHasPt", spec := "fnExactHasPt", inPlace := ["slices.overlaps[loop.example/g00409/impl.Pt]"], unfollowed := true, recurses := true, plainKeys := false, apart := false }
def FnExactHasPtSaid : Prop := fnExactHasPtRow.holds Try.pinned (OpenSpec.ofChange fnExactHasPtSpec)

/-- ITS FALSE NEIGHBOUR: 'it returns false'. Refute it at one input. -/
def fnExactHasPtWrong : ChangeSpec := { name := "fnExactHasPt", fn := fun _ => fun
  | [d1, d2] => { results := [.lit (.bool false)], args := [d1, d2] }
  | _ => none }
def FnExactHasPtWrongFalsely : Prop := fnExactHasPtRow.holds Try.pinned (OpenSpec.ofChange fnExactHasPtWrong)

/-- 'laws.FnExactLessPt': WHATEVER THE INPUT: true; the input reads as it did. -/
def fnExactLessPtSpec : ChangeSpec := { name := "fnExactLessPt", fn := fun _ => fun
  | [d1, d2] => { results := [.lit (.bool true)], args := [d1, d2] }
  | _ => none }
def fnExactLessPtRow : OpenClaim := { program := "ytgoiodhofbkkdaa", sum := "d1750e196677fe17b8f5cc432b6b83308563787baa411403b07e3a0ab7889bc8", func := "loop.example/g00409/laws.FnExactLessPt", spec := "fnExactLessPt", plainKeys := false, apart := false }
def FnExactLessPtSaid : Prop := fnExactLessPtRow.holds Try.pinned (OpenSpec.ofChange fnExactLessPtSpec)

/-- ITS FALSE NEIGHBOUR: 'it returns false'. Refute it at one input. -/
def fnExactLessPtWrong : ChangeSpec := { name := "fnExactLessPt", fn := fun _ => fun
  | [d1, d2] => { results := [.lit (.bool false)], args := [d1, d2] }
  | _ => none }
def FnExactLessPtWrongFalsely : Prop := fnExactLessPtRow.holds Try.pinned (OpenSpec.ofChange fnExactLessPtWrong)

/-- 'laws.FnExactSortPts': WHATEVER THE INPUT: true; the input reads as it did. -/
def fnExactSortPtsSpec : ChangeSpec := { name := "fnExactSortPts", fn := fun _ => fun
  | [d] => { results := [.lit (.bool true)], args := [d] }
  | _ => none }
def fnExactSortPtsRow : OpenClaim := { program := "ytgoiodhofbkkdaa", sum := "d1750e196677fe17b8f5cc432b6b83308563787baa411403b07e3a0ab7889bc8", func := "loop.example/g00409/laws.FnExactSortPts", spec := "fnExactSortPts", inPlace := ["slices.overlaps[loop.example/g00409/impl.Pt]"], unfollowed := true, recurses := true, plainKeys := false, apart := false }
def FnExactSortPtsSaid : Prop := fnExactSortPtsRow.holds Try.pinned (OpenSpec.ofChange fnExactSortPtsSpec)

/-- ITS FALSE NEIGHBOUR: 'it returns false'. Refute it at one input. -/
def fnExactSortPtsWrong : ChangeSpec := { name := "fnExactSortPts", fn := fun _ => fun
  | [d] => { results := [.lit (.bool false)], args := [d] }
  | _ => none }
def FnExactSortPtsWrongFalsely : Prop := fnExactSortPtsRow.holds Try.pinned (OpenSpec.ofChange fnExactSortPtsWrong)

/-- 'laws.FnExactWidestIn': WHATEVER THE INPUT: true; the input reads as it did. -/
def fnExactWidestInSpec : ChangeSpec := { name := "fnExactWidestIn", fn := fun _ => fun
  | [d] => { results := [.lit (.bool true)], args := [d] }
  | _ => none }
def fnExactWidestInRow : OpenClaim := { program := "ytgoiodhofbkkdaa", sum := "d1750e196677fe17b8f5cc432b6b83308563787baa411403b07e3a0ab7889bc8", func := "loop.example/g00409/laws.FnExactWidestIn", spec := "fnExactWidestIn", plainKeys := false, apart := false }
def FnExactWidestInSaid : Prop := fnExactWidestInRow.holds Try.pinned (OpenSpec.ofChange fnExactWidestInSpec)

/-- ITS FALSE NEIGHBOUR: 'it returns false'. Refute it at one input. -/
def fnExactWidestInWrong : ChangeSpec := { name := "fnExactWidestIn", fn := fun _ => fun
  | [d] => { results := [.lit (.bool false)], args := [d] }
  | _ => none }
def FnExactWidestInWrongFalsely : Prop := fnExactWidestInRow.holds Try.pinned (OpenSpec.ofChange fnExactWidestInWrong)

/- THE SECOND FORM. 'bulk': how many values and letters a reading holds, each counted each time it is reached (what is shared counts as often as it is met; a slice's spare places count too). A statement '..UptoSaid' is the law's where the arguments, and the package variables that the reading takes, are together of bulk at most 1048576: NARROWER than '..Said'. Prove '..Said' where nothing that the law and all that it calls make is longer than what came in: it says more and counts as full. Else prove '..UptoSaid'. A law counts once. -/
mutual
def uptoBulk {H : Type} : DataW H → Nat
  | .lit (.string bytes) => bytes.length + 1
  | .lit _ => 1
  | .nil => 1
  | .ptr d => uptoBulk d + 1
  | .slice elems spare => uptoBulkAll elems + uptoBulkAll spare + 1
  | .agg parts => uptoBulkAll parts + 1
  | .iface _ d => uptoBulk d + 1
  | .map entries => uptoBulkEntries entries + 1
  | .held _ => 1
def uptoBulkAll {H : Type} : List (DataW H) → Nat
  | [] => 0
  | d :: r => uptoBulk d + uptoBulkAll r
def uptoBulkEntries {H : Type} : List (Lit × DataW H) → Nat
  | [] => 0
  | x :: r => uptoBulkEntry x + uptoBulkEntries r
def uptoBulkEntry {H : Type} : Lit × DataW H → Nat
  | (.string bytes, d) => bytes.length + uptoBulk d + 1
  | (_, d) => uptoBulk d + 1
 end
def uptoSmall : (H : Type) → List (DataW H) → Bool := fun _ ds => decide (uptoBulkAll ds ≤ 1048576)
def OpenSpec.upto (s : _root_.Go.ChangeSpec) : _root_.Go.OpenSpec := { _root_.Go.OpenSpec.ofChange s with cond := some uptoSmall }

/-- 'laws.FnHulls', WHERE WHAT IT READS IS OF BULK AT MOST 1048576: true; the input reads as it did. -/
def fnHullsUptoRow : OpenClaim := { program := "ytgoiodhofbkkdaa", sum := "d1750e196677fe17b8f5cc432b6b83308563787baa411403b07e3a0ab7889bc8", func := "loop.example/g00409/laws.FnHulls", spec := "fnHulls", inPlace := ["slices.overlaps[loop.example/g00409/impl.Pt]"], unfollowed := true, recurses := true, plainKeys := false, apart := false, narrowed := true }
def FnHullsUptoSaid : Prop := fnHullsUptoRow.holds Try.pinned (OpenSpec.upto fnHullsSpec)

/-- 'laws.FnConvex', WHERE WHAT IT READS IS OF BULK AT MOST 1048576: true; the input reads as it did. -/
def fnConvexUptoRow : OpenClaim := { program := "ytgoiodhofbkkdaa", sum := "d1750e196677fe17b8f5cc432b6b83308563787baa411403b07e3a0ab7889bc8", func := "loop.example/g00409/laws.FnConvex", spec := "fnConvex", inPlace := ["slices.overlaps[loop.example/g00409/impl.Pt]"], unfollowed := true, recurses := true, plainKeys := false, apart := false, narrowed := true }
def FnConvexUptoSaid : Prop := fnConvexUptoRow.holds Try.pinned (OpenSpec.upto fnConvexSpec)

/-- 'laws.FnExactHullOf', WHERE WHAT IT READS IS OF BULK AT MOST 1048576: true; the input reads as it did. -/
def fnExactHullOfUptoRow : OpenClaim := { program := "ytgoiodhofbkkdaa", sum := "d1750e196677fe17b8f5cc432b6b83308563787baa411403b07e3a0ab7889bc8", func := "loop.example/g00409/laws.FnExactHullOf", spec := "fnExactHullOf", inPlace := ["slices.overlaps[loop.example/g00409/impl.Pt]"], unfollowed := true, recurses := true, plainKeys := false, apart := false, narrowed := true }
def FnExactHullOfUptoSaid : Prop := fnExactHullOfUptoRow.holds Try.pinned (OpenSpec.upto fnExactHullOfSpec)

/-- 'laws.FnExactIsHull', WHERE WHAT IT READS IS OF BULK AT MOST 1048576: true; the input reads as it did. -/
def fnExactIsHullUptoRow : OpenClaim := { program := "ytgoiodhofbkkdaa", sum := "d1750e196677fe17b8f5cc432b6b83308563787baa411403b07e3a0ab7889bc8", func := "loop.example/g00409/laws.FnExactIsHull", spec := "fnExactIsHull", inPlace := ["slices.overlaps[loop.example/g00409/impl.Pt]"], unfollowed := true, recurses := true, plainKeys := false, apart := false, narrowed := true }
def FnExactIsHullUptoSaid : Prop := fnExactIsHullUptoRow.holds Try.pinned (OpenSpec.upto fnExactIsHullSpec)

/-- 'laws.FnExactIsConvex', WHERE WHAT IT READS IS OF BULK AT MOST 1048576: true; the input reads as it did. -/
def fnExactIsConvexUptoRow : OpenClaim := { program := "ytgoiodhofbkkdaa", sum := "d1750e196677fe17b8f5cc432b6b83308563787baa411403b07e3a0ab7889bc8", func := "loop.example/g00409/laws.FnExactIsConvex", spec := "fnExactIsConvex", inPlace := ["slices.overlaps[loop.example/g00409/impl.Pt]"], unfollowed := true, recurses := true, plainKeys := false, apart := false, narrowed := true }
def FnExactIsConvexUptoSaid : Prop := fnExactIsConvexUptoRow.holds Try.pinned (OpenSpec.upto fnExactIsConvexSpec)

/-- 'laws.FnExactHasPt', WHERE WHAT IT READS IS OF BULK AT MOST 1048576: true; the input reads as it did. -/
def fnExactHasPtUptoRow : OpenClaim := { program := "ytgoiodhofbkkdaa", sum := "d1750e196677fe17b8f5cc432b6b83308563787baa411403b07e3a0ab7889bc8", func := "loop.example/g00409/laws.FnExactHasPt", spec := "fnExactHasPt", inPlace := ["slices.overlaps[loop.example/g00409/impl.Pt]"], unfollowed := true, recurses := true, plainKeys := false, apart := false, narrowed := true }
def FnExactHasPtUptoSaid : Prop := fnExactHasPtUptoRow.holds Try.pinned (OpenSpec.upto fnExactHasPtSpec)

/-- 'laws.FnExactLessPt', WHERE WHAT IT READS IS OF BULK AT MOST 1048576: true; the input reads as it did. -/
def fnExactLessPtUptoRow : OpenClaim := { program := "ytgoiodhofbkkdaa", sum := "d1750e196677fe17b8f5cc432b6b83308563787baa411403b07e3a0ab7889bc8", func := "loop.example/g00409/laws.FnExactLessPt", spec := "fnExactLessPt", plainKeys := false, apart := false, narrowed := true }
def FnExactLessPtUptoSaid : Prop := fnExactLessPtUptoRow.holds Try.pinned (OpenSpec.upto fnExactLessPtSpec)

/-- 'laws.FnExactSortPts', WHERE WHAT IT READS IS OF BULK AT MOST 1048576: true; the input reads as it did. -/
def fnExactSortPtsUptoRow : OpenClaim := { program := "ytgoiodhofbkkdaa", sum := "d1750e196677fe17b8f5cc432b6b83308563787baa411403b07e3a0ab7889bc8", func := "loop.example/g00409/laws.FnExactSortPts", spec := "fnExactSortPts", inPlace := ["slices.overlaps[loop.example/g00409/impl.Pt]"], unfollowed := true, recurses := true, plainKeys := false, apart := false, narrowed := true }
def FnExactSortPtsUptoSaid : Prop := fnExactSortPtsUptoRow.holds Try.pinned (OpenSpec.upto fnExactSortPtsSpec)

/-- 'laws.FnExactWidestIn', WHERE WHAT IT READS IS OF BULK AT MOST 1048576: true; the input reads as it did. -/
def fnExactWidestInUptoRow : OpenClaim := { program := "ytgoiodhofbkkdaa", sum := "d1750e196677fe17b8f5cc432b6b83308563787baa411403b07e3a0ab7889bc8", func := "loop.example/g00409/laws.FnExactWidestIn", spec := "fnExactWidestIn", plainKeys := false, apart := false, narrowed := true }
def FnExactWidestInUptoSaid : Prop := fnExactWidestInUptoRow.holds Try.pinned (OpenSpec.upto fnExactWidestInSpec)

end Rows
end Go.Proofs.Ytgoiodhofbkkdaa
