/-
  No cell of these rows narrows 'for every input' (looked for: loops, veiled, ifaces, maps, wideKeys, modest, calm, conditions, laid).
  DERIVED. THE GIVEN ROWS OF THIS SEAT. 16 by the template 'for every input the law returns true; each argument reads behind the call as it read before'; 0 by the template 'total and deterministic' (their statements: YtlmeokeanihhoaaTotals.lean).
  GIVEN WITH THE SEED: the statements are not yours to turn. If you find one false, say at which input.
  Laid BY PROGRAM, IN A SANDBOX (cutbox-rows.mjs): the forced cells as the released guide's own fill.sh prints them over the translation c9eb0b8436663525… (all of the seat's roots in one cut). By AI agents, Wed Nov 11 2026. No macro, syntax, notation, axiom, sorry.
-/
import Derived.Test.YtlmeokeanihhoaaChecked
import GoSem.Claim
import GoSem.ClaimJoined
import GoSem.ClaimMapViews
import Derived.JoinedTies
import Derived.KernelRfl
namespace Go.Proofs.Ytlmeokeanihhoaa
/- THE CELL 'sum', in the pinned program and in every row, IS THE sha256 OF THE DUMP (.gsa) THAT YtlmeokeanihhoaaProg.lean LOADS. Nothing in Lean hashes anything: it is a label: what it is worth is what the hold of that sum in a sandbox is worth. -/
noncomputable def Try.pinned : Pinned := { name := "ytlmeokeanihhoaa", sum := "c9eb0b84366635257322144b95c314d4e43f24ec4a4451ad5f52166b8c49be58", checked := Try.checked }
namespace Rows
def none {H : Type} : Left H := { results := [], args := [] }

/-- 'laws.FnExactAddRat': WHATEVER THE INPUT: true; the input reads as it did. -/
def fnExactAddRatSpec : ChangeSpec := { name := "fnExactAddRat", fn := fun _ => fun
  | [d1, d2] => { results := [.lit (.bool true)], args := [d1, d2] }
  | _ => none }
def fnExactAddRatRow : OpenClaim := { program := "ytlmeokeanihhoaa", sum := "c9eb0b84366635257322144b95c314d4e43f24ec4a4451ad5f52166b8c49be58", func := "loop.example/g00409/laws.FnExactAddRat", spec := "fnExactAddRat", unfollowed := true, recurses := true, apart := false }
def FnExactAddRatSaid : Prop := fnExactAddRatRow.holds Try.pinned (OpenSpec.ofChange fnExactAddRatSpec)

/-- ITS FALSE NEIGHBOUR: 'it returns false'. Refute it at one input. -/
def fnExactAddRatWrong : ChangeSpec := { name := "fnExactAddRat", fn := fun _ => fun
  | [d1, d2] => { results := [.lit (.bool false)], args := [d1, d2] }
  | _ => none }
def FnExactAddRatWrongFalsely : Prop := fnExactAddRatRow.holds Try.pinned (OpenSpec.ofChange fnExactAddRatWrong)

/-- 'laws.FnExactSubRat': WHATEVER THE INPUT: true; the input reads as it did. -/
def fnExactSubRatSpec : ChangeSpec := { name := "fnExactSubRat", fn := fun _ => fun
  | [d1, d2] => { results := [.lit (.bool true)], args := [d1, d2] }
  | _ => none }
def fnExactSubRatRow : OpenClaim := { program := "ytlmeokeanihhoaa", sum := "c9eb0b84366635257322144b95c314d4e43f24ec4a4451ad5f52166b8c49be58", func := "loop.example/g00409/laws.FnExactSubRat", spec := "fnExactSubRat", unfollowed := true, recurses := true, apart := false }
def FnExactSubRatSaid : Prop := fnExactSubRatRow.holds Try.pinned (OpenSpec.ofChange fnExactSubRatSpec)

/-- ITS FALSE NEIGHBOUR: 'it returns false'. Refute it at one input. -/
def fnExactSubRatWrong : ChangeSpec := { name := "fnExactSubRat", fn := fun _ => fun
  | [d1, d2] => { results := [.lit (.bool false)], args := [d1, d2] }
  | _ => none }
def FnExactSubRatWrongFalsely : Prop := fnExactSubRatRow.holds Try.pinned (OpenSpec.ofChange fnExactSubRatWrong)

/-- 'laws.FnExactMulRat': WHATEVER THE INPUT: true; the input reads as it did. -/
def fnExactMulRatSpec : ChangeSpec := { name := "fnExactMulRat", fn := fun _ => fun
  | [d1, d2] => { results := [.lit (.bool true)], args := [d1, d2] }
  | _ => none }
def fnExactMulRatRow : OpenClaim := { program := "ytlmeokeanihhoaa", sum := "c9eb0b84366635257322144b95c314d4e43f24ec4a4451ad5f52166b8c49be58", func := "loop.example/g00409/laws.FnExactMulRat", spec := "fnExactMulRat", unfollowed := true, recurses := true, apart := false }
def FnExactMulRatSaid : Prop := fnExactMulRatRow.holds Try.pinned (OpenSpec.ofChange fnExactMulRatSpec)

/-- ITS FALSE NEIGHBOUR: 'it returns false'. Refute it at one input. -/
def fnExactMulRatWrong : ChangeSpec := { name := "fnExactMulRat", fn := fun _ => fun
  | [d1, d2] => { results := [.lit (.bool false)], args := [d1, d2] }
  | _ => none }
def FnExactMulRatWrongFalsely : Prop := fnExactMulRatRow.holds Try.pinned (OpenSpec.ofChange fnExactMulRatWrong)

/-- 'laws.FnExactDivRat': WHATEVER THE INPUT: true; the input reads as it did. -/
def fnExactDivRatSpec : ChangeSpec := { name := "fnExactDivRat", fn := fun _ => fun
  | [d1, d2] => { results := [.lit (.bool true)], args := [d1, d2] }
  | _ => none }
def fnExactDivRatRow : OpenClaim := { program := "ytlmeokeanihhoaa", sum := "c9eb0b84366635257322144b95c314d4e43f24ec4a4451ad5f52166b8c49be58", func := "loop.example/g00409/laws.FnExactDivRat", spec := "fnExactDivRat", unfollowed := true, recurses := true, apart := false }
def FnExactDivRatSaid : Prop := fnExactDivRatRow.holds Try.pinned (OpenSpec.ofChange fnExactDivRatSpec)

/-- ITS FALSE NEIGHBOUR: 'it returns false'. Refute it at one input. -/
def fnExactDivRatWrong : ChangeSpec := { name := "fnExactDivRat", fn := fun _ => fun
  | [d1, d2] => { results := [.lit (.bool false)], args := [d1, d2] }
  | _ => none }
def FnExactDivRatWrongFalsely : Prop := fnExactDivRatRow.holds Try.pinned (OpenSpec.ofChange fnExactDivRatWrong)

/-- 'laws.FnExactSimplestIn': WHATEVER THE INPUT: true; the input reads as it did. -/
def fnExactSimplestInSpec : ChangeSpec := { name := "fnExactSimplestIn", fn := fun _ => fun
  | [d1, d2] => { results := [.lit (.bool true)], args := [d1, d2] }
  | _ => none }
def fnExactSimplestInRow : OpenClaim := { program := "ytlmeokeanihhoaa", sum := "c9eb0b84366635257322144b95c314d4e43f24ec4a4451ad5f52166b8c49be58", func := "loop.example/g00409/laws.FnExactSimplestIn", spec := "fnExactSimplestIn", unfollowed := true, recurses := true, apart := false }
def FnExactSimplestInSaid : Prop := fnExactSimplestInRow.holds Try.pinned (OpenSpec.ofChange fnExactSimplestInSpec)

/-- ITS FALSE NEIGHBOUR: 'it returns false'. Refute it at one input. -/
def fnExactSimplestInWrong : ChangeSpec := { name := "fnExactSimplestIn", fn := fun _ => fun
  | [d1, d2] => { results := [.lit (.bool false)], args := [d1, d2] }
  | _ => none }
def FnExactSimplestInWrongFalsely : Prop := fnExactSimplestInRow.holds Try.pinned (OpenSpec.ofChange fnExactSimplestInWrong)

/-- 'laws.FnExactAddSpan': WHATEVER THE INPUT: true; the input reads as it did. -/
def fnExactAddSpanSpec : ChangeSpec := { name := "fnExactAddSpan", fn := fun _ => fun
  | [d1, d2] => { results := [.lit (.bool true)], args := [d1, d2] }
  | _ => none }
def fnExactAddSpanRow : OpenClaim := { program := "ytlmeokeanihhoaa", sum := "c9eb0b84366635257322144b95c314d4e43f24ec4a4451ad5f52166b8c49be58", func := "loop.example/g00409/laws.FnExactAddSpan", spec := "fnExactAddSpan", unfollowed := true, recurses := true, apart := false }
def FnExactAddSpanSaid : Prop := fnExactAddSpanRow.holds Try.pinned (OpenSpec.ofChange fnExactAddSpanSpec)

/-- ITS FALSE NEIGHBOUR: 'it returns false'. Refute it at one input. -/
def fnExactAddSpanWrong : ChangeSpec := { name := "fnExactAddSpan", fn := fun _ => fun
  | [d1, d2] => { results := [.lit (.bool false)], args := [d1, d2] }
  | _ => none }
def FnExactAddSpanWrongFalsely : Prop := fnExactAddSpanRow.holds Try.pinned (OpenSpec.ofChange fnExactAddSpanWrong)

/-- 'laws.FnExactSubSpan': WHATEVER THE INPUT: true; the input reads as it did. -/
def fnExactSubSpanSpec : ChangeSpec := { name := "fnExactSubSpan", fn := fun _ => fun
  | [d1, d2] => { results := [.lit (.bool true)], args := [d1, d2] }
  | _ => none }
def fnExactSubSpanRow : OpenClaim := { program := "ytlmeokeanihhoaa", sum := "c9eb0b84366635257322144b95c314d4e43f24ec4a4451ad5f52166b8c49be58", func := "loop.example/g00409/laws.FnExactSubSpan", spec := "fnExactSubSpan", unfollowed := true, recurses := true, apart := false }
def FnExactSubSpanSaid : Prop := fnExactSubSpanRow.holds Try.pinned (OpenSpec.ofChange fnExactSubSpanSpec)

/-- ITS FALSE NEIGHBOUR: 'it returns false'. Refute it at one input. -/
def fnExactSubSpanWrong : ChangeSpec := { name := "fnExactSubSpan", fn := fun _ => fun
  | [d1, d2] => { results := [.lit (.bool false)], args := [d1, d2] }
  | _ => none }
def FnExactSubSpanWrongFalsely : Prop := fnExactSubSpanRow.holds Try.pinned (OpenSpec.ofChange fnExactSubSpanWrong)

/-- 'laws.FnExactMulSpan': WHATEVER THE INPUT: true; the input reads as it did. -/
def fnExactMulSpanSpec : ChangeSpec := { name := "fnExactMulSpan", fn := fun _ => fun
  | [d1, d2] => { results := [.lit (.bool true)], args := [d1, d2] }
  | _ => none }
def fnExactMulSpanRow : OpenClaim := { program := "ytlmeokeanihhoaa", sum := "c9eb0b84366635257322144b95c314d4e43f24ec4a4451ad5f52166b8c49be58", func := "loop.example/g00409/laws.FnExactMulSpan", spec := "fnExactMulSpan", unfollowed := true, recurses := true, apart := false }
def FnExactMulSpanSaid : Prop := fnExactMulSpanRow.holds Try.pinned (OpenSpec.ofChange fnExactMulSpanSpec)

/-- ITS FALSE NEIGHBOUR: 'it returns false'. Refute it at one input. -/
def fnExactMulSpanWrong : ChangeSpec := { name := "fnExactMulSpan", fn := fun _ => fun
  | [d1, d2] => { results := [.lit (.bool false)], args := [d1, d2] }
  | _ => none }
def FnExactMulSpanWrongFalsely : Prop := fnExactMulSpanRow.holds Try.pinned (OpenSpec.ofChange fnExactMulSpanWrong)

/-- 'laws.FnExactInvertSpan': WHATEVER THE INPUT: true; the input reads as it did. -/
def fnExactInvertSpanSpec : ChangeSpec := { name := "fnExactInvertSpan", fn := fun _ => fun
  | [d] => { results := [.lit (.bool true)], args := [d] }
  | _ => none }
def fnExactInvertSpanRow : OpenClaim := { program := "ytlmeokeanihhoaa", sum := "c9eb0b84366635257322144b95c314d4e43f24ec4a4451ad5f52166b8c49be58", func := "loop.example/g00409/laws.FnExactInvertSpan", spec := "fnExactInvertSpan", unfollowed := true, recurses := true, apart := false }
def FnExactInvertSpanSaid : Prop := fnExactInvertSpanRow.holds Try.pinned (OpenSpec.ofChange fnExactInvertSpanSpec)

/-- ITS FALSE NEIGHBOUR: 'it returns false'. Refute it at one input. -/
def fnExactInvertSpanWrong : ChangeSpec := { name := "fnExactInvertSpan", fn := fun _ => fun
  | [d] => { results := [.lit (.bool false)], args := [d] }
  | _ => none }
def FnExactInvertSpanWrongFalsely : Prop := fnExactInvertSpanRow.holds Try.pinned (OpenSpec.ofChange fnExactInvertSpanWrong)

/-- 'laws.FnExactJoinSpan': WHATEVER THE INPUT: true; the input reads as it did. -/
def fnExactJoinSpanSpec : ChangeSpec := { name := "fnExactJoinSpan", fn := fun _ => fun
  | [d1, d2] => { results := [.lit (.bool true)], args := [d1, d2] }
  | _ => none }
def fnExactJoinSpanRow : OpenClaim := { program := "ytlmeokeanihhoaa", sum := "c9eb0b84366635257322144b95c314d4e43f24ec4a4451ad5f52166b8c49be58", func := "loop.example/g00409/laws.FnExactJoinSpan", spec := "fnExactJoinSpan", unfollowed := true, recurses := true, apart := false }
def FnExactJoinSpanSaid : Prop := fnExactJoinSpanRow.holds Try.pinned (OpenSpec.ofChange fnExactJoinSpanSpec)

/-- ITS FALSE NEIGHBOUR: 'it returns false'. Refute it at one input. -/
def fnExactJoinSpanWrong : ChangeSpec := { name := "fnExactJoinSpan", fn := fun _ => fun
  | [d1, d2] => { results := [.lit (.bool false)], args := [d1, d2] }
  | _ => none }
def FnExactJoinSpanWrongFalsely : Prop := fnExactJoinSpanRow.holds Try.pinned (OpenSpec.ofChange fnExactJoinSpanWrong)

/-- 'laws.FnExactWidthOf': WHATEVER THE INPUT: true; the input reads as it did. -/
def fnExactWidthOfSpec : ChangeSpec := { name := "fnExactWidthOf", fn := fun _ => fun
  | [d] => { results := [.lit (.bool true)], args := [d] }
  | _ => none }
def fnExactWidthOfRow : OpenClaim := { program := "ytlmeokeanihhoaa", sum := "c9eb0b84366635257322144b95c314d4e43f24ec4a4451ad5f52166b8c49be58", func := "loop.example/g00409/laws.FnExactWidthOf", spec := "fnExactWidthOf", unfollowed := true, recurses := true, apart := false }
def FnExactWidthOfSaid : Prop := fnExactWidthOfRow.holds Try.pinned (OpenSpec.ofChange fnExactWidthOfSpec)

/-- ITS FALSE NEIGHBOUR: 'it returns false'. Refute it at one input. -/
def fnExactWidthOfWrong : ChangeSpec := { name := "fnExactWidthOf", fn := fun _ => fun
  | [d] => { results := [.lit (.bool false)], args := [d] }
  | _ => none }
def FnExactWidthOfWrongFalsely : Prop := fnExactWidthOfRow.holds Try.pinned (OpenSpec.ofChange fnExactWidthOfWrong)

/-- 'laws.FnExactGoodPoly': WHATEVER THE INPUT: true; the input reads as it did. -/
def fnExactGoodPolySpec : ChangeSpec := { name := "fnExactGoodPoly", fn := fun _ => fun
  | [d] => { results := [.lit (.bool true)], args := [d] }
  | _ => none }
def fnExactGoodPolyRow : OpenClaim := { program := "ytlmeokeanihhoaa", sum := "c9eb0b84366635257322144b95c314d4e43f24ec4a4451ad5f52166b8c49be58", func := "loop.example/g00409/laws.FnExactGoodPoly", spec := "fnExactGoodPoly", unfollowed := true, recurses := true, apart := false }
def FnExactGoodPolySaid : Prop := fnExactGoodPolyRow.holds Try.pinned (OpenSpec.ofChange fnExactGoodPolySpec)

/-- ITS FALSE NEIGHBOUR: 'it returns false'. Refute it at one input. -/
def fnExactGoodPolyWrong : ChangeSpec := { name := "fnExactGoodPoly", fn := fun _ => fun
  | [d] => { results := [.lit (.bool false)], args := [d] }
  | _ => none }
def FnExactGoodPolyWrongFalsely : Prop := fnExactGoodPolyRow.holds Try.pinned (OpenSpec.ofChange fnExactGoodPolyWrong)

/-- 'laws.FnExactAddPoly': WHATEVER THE INPUT: true; the input reads as it did. -/
def fnExactAddPolySpec : ChangeSpec := { name := "fnExactAddPoly", fn := fun _ => fun
  | [d1, d2] => { results := [.lit (.bool true)], args := [d1, d2] }
  | _ => none }
def fnExactAddPolyRow : OpenClaim := { program := "ytlmeokeanihhoaa", sum := "c9eb0b84366635257322144b95c314d4e43f24ec4a4451ad5f52166b8c49be58", func := "loop.example/g00409/laws.FnExactAddPoly", spec := "fnExactAddPoly", unfollowed := true, recurses := true, apart := false }
def FnExactAddPolySaid : Prop := fnExactAddPolyRow.holds Try.pinned (OpenSpec.ofChange fnExactAddPolySpec)

/-- ITS FALSE NEIGHBOUR: 'it returns false'. Refute it at one input. -/
def fnExactAddPolyWrong : ChangeSpec := { name := "fnExactAddPoly", fn := fun _ => fun
  | [d1, d2] => { results := [.lit (.bool false)], args := [d1, d2] }
  | _ => none }
def FnExactAddPolyWrongFalsely : Prop := fnExactAddPolyRow.holds Try.pinned (OpenSpec.ofChange fnExactAddPolyWrong)

/-- 'laws.FnExactDerivePoly': WHATEVER THE INPUT: true; the input reads as it did. -/
def fnExactDerivePolySpec : ChangeSpec := { name := "fnExactDerivePoly", fn := fun _ => fun
  | [d] => { results := [.lit (.bool true)], args := [d] }
  | _ => none }
def fnExactDerivePolyRow : OpenClaim := { program := "ytlmeokeanihhoaa", sum := "c9eb0b84366635257322144b95c314d4e43f24ec4a4451ad5f52166b8c49be58", func := "loop.example/g00409/laws.FnExactDerivePoly", spec := "fnExactDerivePoly", unfollowed := true, recurses := true, apart := false }
def FnExactDerivePolySaid : Prop := fnExactDerivePolyRow.holds Try.pinned (OpenSpec.ofChange fnExactDerivePolySpec)

/-- ITS FALSE NEIGHBOUR: 'it returns false'. Refute it at one input. -/
def fnExactDerivePolyWrong : ChangeSpec := { name := "fnExactDerivePoly", fn := fun _ => fun
  | [d] => { results := [.lit (.bool false)], args := [d] }
  | _ => none }
def FnExactDerivePolyWrongFalsely : Prop := fnExactDerivePolyRow.holds Try.pinned (OpenSpec.ofChange fnExactDerivePolyWrong)

/-- 'laws.FnExactSylvesterOf': WHATEVER THE INPUT: true; the input reads as it did. -/
def fnExactSylvesterOfSpec : ChangeSpec := { name := "fnExactSylvesterOf", fn := fun _ => fun
  | [d1, d2] => { results := [.lit (.bool true)], args := [d1, d2] }
  | _ => none }
def fnExactSylvesterOfRow : OpenClaim := { program := "ytlmeokeanihhoaa", sum := "c9eb0b84366635257322144b95c314d4e43f24ec4a4451ad5f52166b8c49be58", func := "loop.example/g00409/laws.FnExactSylvesterOf", spec := "fnExactSylvesterOf", unfollowed := true, recurses := true, apart := false }
def FnExactSylvesterOfSaid : Prop := fnExactSylvesterOfRow.holds Try.pinned (OpenSpec.ofChange fnExactSylvesterOfSpec)

/-- ITS FALSE NEIGHBOUR: 'it returns false'. Refute it at one input. -/
def fnExactSylvesterOfWrong : ChangeSpec := { name := "fnExactSylvesterOf", fn := fun _ => fun
  | [d1, d2] => { results := [.lit (.bool false)], args := [d1, d2] }
  | _ => none }
def FnExactSylvesterOfWrongFalsely : Prop := fnExactSylvesterOfRow.holds Try.pinned (OpenSpec.ofChange fnExactSylvesterOfWrong)

/-- 'laws.FnExactTransposeOf': WHATEVER THE INPUT: true; the input reads as it did. -/
def fnExactTransposeOfSpec : ChangeSpec := { name := "fnExactTransposeOf", fn := fun _ => fun
  | [d] => { results := [.lit (.bool true)], args := [d] }
  | _ => none }
def fnExactTransposeOfRow : OpenClaim := { program := "ytlmeokeanihhoaa", sum := "c9eb0b84366635257322144b95c314d4e43f24ec4a4451ad5f52166b8c49be58", func := "loop.example/g00409/laws.FnExactTransposeOf", spec := "fnExactTransposeOf", unfollowed := true, recurses := true, apart := false }
def FnExactTransposeOfSaid : Prop := fnExactTransposeOfRow.holds Try.pinned (OpenSpec.ofChange fnExactTransposeOfSpec)

/-- ITS FALSE NEIGHBOUR: 'it returns false'. Refute it at one input. -/
def fnExactTransposeOfWrong : ChangeSpec := { name := "fnExactTransposeOf", fn := fun _ => fun
  | [d] => { results := [.lit (.bool false)], args := [d] }
  | _ => none }
def FnExactTransposeOfWrongFalsely : Prop := fnExactTransposeOfRow.holds Try.pinned (OpenSpec.ofChange fnExactTransposeOfWrong)

/- THE SECOND FORM. 'bulk': how many values and letters a reading holds, each counted each time it is reached (what is shared counts as often as it is met; a slice's spare places count too). A statement '..UptoSaid' is the law's where the arguments, and the package variables that the reading takes, are together of bulk at most 1048576: NARROWER than '..Said'. Prove '..Said' where nothing that the law and all that it calls make is longer than what came in: it says more and counts as full. Else prove '..UptoSaid'. A law counts once. -/
mutual
def uptoBulk {H : Type} : DataW H → Nat
  | .lit (.string bytes) => bytes.length + 1
  | .lit _ => 1
  | .nil => 1
  | .ptr d => uptoBulk d + 1
  | .slice elems spare => uptoBulkAll elems + uptoBulkAll spare + 1
  | .agg parts => uptoBulkAll parts + 1
  | .iface _ d => uptoBulk d + 1
  | .map entries => uptoBulkEntries entries + 1
  | .held _ => 1
def uptoBulkAll {H : Type} : List (DataW H) → Nat
  | [] => 0
  | d :: r => uptoBulk d + uptoBulkAll r
def uptoBulkEntries {H : Type} : List (Lit × DataW H) → Nat
  | [] => 0
  | x :: r => uptoBulkEntry x + uptoBulkEntries r
def uptoBulkEntry {H : Type} : Lit × DataW H → Nat
  | (.string bytes, d) => bytes.length + uptoBulk d + 1
  | (_, d) => uptoBulk d + 1
 end
def uptoSmall : (H : Type) → List (DataW H) → Bool := fun _ ds => decide (uptoBulkAll ds ≤ 1048576)
def OpenSpec.upto (s : _root_.Go.ChangeSpec) : _root_.Go.OpenSpec := { _root_.Go.OpenSpec.ofChange s with cond := some uptoSmall }

/-- 'laws.FnExactAddRat', WHERE WHAT IT READS IS OF BULK AT MOST 1048576: true; the input reads as it did. -/
def fnExactAddRatUptoRow : OpenClaim := { program := "ytlmeokeanihhoaa", sum := "c9eb0b84366635257322144b95c314d4e43f24ec4a4451ad5f52166b8c49be58", func := "loop.example/g00409/laws.FnExactAddRat", spec := "fnExactAddRat", unfollowed := true, recurses := true, apart := false, narrowed := true }
def FnExactAddRatUptoSaid : Prop := fnExactAddRatUptoRow.holds Try.pinned (OpenSpec.upto fnExactAddRatSpec)

/-- 'laws.FnExactSubRat', WHERE WHAT IT READS IS OF BULK AT MOST 1048576: true; the input reads as it did. -/
def fnExactSubRatUptoRow : OpenClaim := { program := "ytlmeokeanihhoaa", sum := "c9eb0b84366635257322144b95c314d4e43f24ec4a4451ad5f52166b8c49be58", func := "loop.example/g00409/laws.FnExactSubRat", spec := "fnExactSubRat", unfollowed := true, recurses := true, apart := false, narrowed := true }
def FnExactSubRatUptoSaid : Prop := fnExactSubRatUptoRow.holds Try.pinned (OpenSpec.upto fnExactSubRatSpec)

/-- 'laws.FnExactMulRat', WHERE WHAT IT READS IS OF BULK AT MOST 1048576: true; the input reads as it did. -/
def fnExactMulRatUptoRow : OpenClaim := { program := "ytlmeokeanihhoaa", sum := "c9eb0b84366635257322144b95c314d4e43f24ec4a4451ad5f52166b8c49be58", func := "loop.example/g00409/laws.FnExactMulRat", spec := "fnExactMulRat", unfollowed := true, recurses := true, apart := false, narrowed := true }
def FnExactMulRatUptoSaid : Prop := fnExactMulRatUptoRow.holds Try.pinned (OpenSpec.upto fnExactMulRatSpec)

/-- 'laws.FnExactDivRat', WHERE WHAT IT READS IS OF BULK AT MOST 1048576: true; the input reads as it did. -/
def fnExactDivRatUptoRow : OpenClaim := { program := "ytlmeokeanihhoaa", sum := "c9eb0b84366635257322144b95c314d4e43f24ec4a4451ad5f52166b8c49be58", func := "loop.example/g00409/laws.FnExactDivRat", spec := "fnExactDivRat", unfollowed := true, recurses := true, apart := false, narrowed := true }
def FnExactDivRatUptoSaid : Prop := fnExactDivRatUptoRow.holds Try.pinned (OpenSpec.upto fnExactDivRatSpec)

/-- 'laws.FnExactSimplestIn', WHERE WHAT IT READS IS OF BULK AT MOST 1048576: true; the input reads as it did. -/
def fnExactSimplestInUptoRow : OpenClaim := { program := "ytlmeokeanihhoaa", sum := "c9eb0b84366635257322144b95c314d4e43f24ec4a4451ad5f52166b8c49be58", func := "loop.example/g00409/laws.FnExactSimplestIn", spec := "fnExactSimplestIn", unfollowed := true, recurses := true, apart := false, narrowed := true }
def FnExactSimplestInUptoSaid : Prop := fnExactSimplestInUptoRow.holds Try.pinned (OpenSpec.upto fnExactSimplestInSpec)

/-- 'laws.FnExactAddSpan', WHERE WHAT IT READS IS OF BULK AT MOST 1048576: true; the input reads as it did. -/
def fnExactAddSpanUptoRow : OpenClaim := { program := "ytlmeokeanihhoaa", sum := "c9eb0b84366635257322144b95c314d4e43f24ec4a4451ad5f52166b8c49be58", func := "loop.example/g00409/laws.FnExactAddSpan", spec := "fnExactAddSpan", unfollowed := true, recurses := true, apart := false, narrowed := true }
def FnExactAddSpanUptoSaid : Prop := fnExactAddSpanUptoRow.holds Try.pinned (OpenSpec.upto fnExactAddSpanSpec)

/-- 'laws.FnExactSubSpan', WHERE WHAT IT READS IS OF BULK AT MOST 1048576: true; the input reads as it did. -/
def fnExactSubSpanUptoRow : OpenClaim := { program := "ytlmeokeanihhoaa", sum := "c9eb0b84366635257322144b95c314d4e43f24ec4a4451ad5f52166b8c49be58", func := "loop.example/g00409/laws.FnExactSubSpan", spec := "fnExactSubSpan", unfollowed := true, recurses := true, apart := false, narrowed := true }
def FnExactSubSpanUptoSaid : Prop := fnExactSubSpanUptoRow.holds Try.pinned (OpenSpec.upto fnExactSubSpanSpec)

/-- 'laws.FnExactMulSpan', WHERE WHAT IT READS IS OF BULK AT MOST 1048576: true; the input reads as it did. -/
def fnExactMulSpanUptoRow : OpenClaim := { program := "ytlmeokeanihhoaa", sum := "c9eb0b84366635257322144b95c314d4e43f24ec4a4451ad5f52166b8c49be58", func := "loop.example/g00409/laws.FnExactMulSpan", spec := "fnExactMulSpan", unfollowed := true, recurses := true, apart := false, narrowed := true }
def FnExactMulSpanUptoSaid : Prop := fnExactMulSpanUptoRow.holds Try.pinned (OpenSpec.upto fnExactMulSpanSpec)

/-- 'laws.FnExactInvertSpan', WHERE WHAT IT READS IS OF BULK AT MOST 1048576: true; the input reads as it did. -/
def fnExactInvertSpanUptoRow : OpenClaim := { program := "ytlmeokeanihhoaa", sum := "c9eb0b84366635257322144b95c314d4e43f24ec4a4451ad5f52166b8c49be58", func := "loop.example/g00409/laws.FnExactInvertSpan", spec := "fnExactInvertSpan", unfollowed := true, recurses := true, apart := false, narrowed := true }
def FnExactInvertSpanUptoSaid : Prop := fnExactInvertSpanUptoRow.holds Try.pinned (OpenSpec.upto fnExactInvertSpanSpec)

/-- 'laws.FnExactJoinSpan', WHERE WHAT IT READS IS OF BULK AT MOST 1048576: true; the input reads as it did. -/
def fnExactJoinSpanUptoRow : OpenClaim := { program := "ytlmeokeanihhoaa", sum := "c9eb0b84366635257322144b95c314d4e43f24ec4a4451ad5f52166b8c49be58", func := "loop.example/g00409/laws.FnExactJoinSpan", spec := "fnExactJoinSpan", unfollowed := true, recurses := true, apart := false, narrowed := true }
def FnExactJoinSpanUptoSaid : Prop := fnExactJoinSpanUptoRow.holds Try.pinned (OpenSpec.upto fnExactJoinSpanSpec)

/-- 'laws.FnExactWidthOf', WHERE WHAT IT READS IS OF BULK AT MOST 1048576: true; the input reads as it did. -/
def fnExactWidthOfUptoRow : OpenClaim := { program := "ytlmeokeanihhoaa", sum := "c9eb0b84366635257322144b95c314d4e43f24ec4a4451ad5f52166b8c49be58", func := "loop.example/g00409/laws.FnExactWidthOf", spec := "fnExactWidthOf", unfollowed := true, recurses := true, apart := false, narrowed := true }
def FnExactWidthOfUptoSaid : Prop := fnExactWidthOfUptoRow.holds Try.pinned (OpenSpec.upto fnExactWidthOfSpec)

/-- 'laws.FnExactGoodPoly', WHERE WHAT IT READS IS OF BULK AT MOST 1048576: true; the input reads as it did. -/
def fnExactGoodPolyUptoRow : OpenClaim := { program := "ytlmeokeanihhoaa", sum := "c9eb0b84366635257322144b95c314d4e43f24ec4a4451ad5f52166b8c49be58", func := "loop.example/g00409/laws.FnExactGoodPoly", spec := "fnExactGoodPoly", unfollowed := true, recurses := true, apart := false, narrowed := true }
def FnExactGoodPolyUptoSaid : Prop := fnExactGoodPolyUptoRow.holds Try.pinned (OpenSpec.upto fnExactGoodPolySpec)

/-- 'laws.FnExactAddPoly', WHERE WHAT IT READS IS OF BULK AT MOST 1048576: true; the input reads as it did. -/
def fnExactAddPolyUptoRow : OpenClaim := { program := "ytlmeokeanihhoaa", sum := "c9eb0b84366635257322144b95c314d4e43f24ec4a4451ad5f52166b8c49be58", func := "loop.example/g00409/laws.FnExactAddPoly", spec := "fnExactAddPoly", unfollowed := true, recurses := true, apart := false, narrowed := true }
def FnExactAddPolyUptoSaid : Prop := fnExactAddPolyUptoRow.holds Try.pinned (OpenSpec.upto fnExactAddPolySpec)

/-- 'laws.FnExactDerivePoly', WHERE WHAT IT READS IS OF BULK AT MOST 1048576: true; the input reads as it did. -/
def fnExactDerivePolyUptoRow : OpenClaim := { program := "ytlmeokeanihhoaa", sum := "c9eb0b84366635257322144b95c314d4e43f24ec4a4451ad5f52166b8c49be58", func := "loop.example/g00409/laws.FnExactDerivePoly", spec := "fnExactDerivePoly", unfollowed := true, recurses := true, apart := false, narrowed := true }
def FnExactDerivePolyUptoSaid : Prop := fnExactDerivePolyUptoRow.holds Try.pinned (OpenSpec.upto fnExactDerivePolySpec)

/-- 'laws.FnExactSylvesterOf', WHERE WHAT IT READS IS OF BULK AT MOST 1048576: true; the input reads as it did. -/
def fnExactSylvesterOfUptoRow : OpenClaim := { program := "ytlmeokeanihhoaa", sum := "c9eb0b84366635257322144b95c314d4e43f24ec4a4451ad5f52166b8c49be58", func := "loop.example/g00409/laws.FnExactSylvesterOf", spec := "fnExactSylvesterOf", unfollowed := true, recurses := true, apart := false, narrowed := true }
def FnExactSylvesterOfUptoSaid : Prop := fnExactSylvesterOfUptoRow.holds Try.pinned (OpenSpec.upto fnExactSylvesterOfSpec)

/-- 'laws.FnExactTransposeOf', WHERE WHAT IT READS IS OF BULK AT MOST 1048576: true; the input reads as it did. -/
def fnExactTransposeOfUptoRow : OpenClaim := { program := "ytlmeokeanihhoaa", sum := "c9eb0b84366635257322144b95c314d4e43f24ec4a4451ad5f52166b8c49be58", func := "loop.example/g00409/laws.FnExactTransposeOf", spec := "fnExactTransposeOf", unfollowed := true, recurses := true, apart := false, narrowed := true }
def FnExactTransposeOfUptoSaid : Prop := fnExactTransposeOfUptoRow.holds Try.pinned (OpenSpec.upto fnExactTransposeOfSpec)

end Rows
end Go.Proofs.Ytlmeokeanihhoaa
