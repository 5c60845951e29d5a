/-
  No cell of these rows narrows 'for every input' (looked for: loops, veiled, ifaces, maps, wideKeys, modest, calm, conditions, laid).
  DERIVED. THE GIVEN ROWS OF THIS SEAT. 22 by the template 'for every input the law returns true; each argument reads behind the call as it read before'; 0 by the template 'total and deterministic' (their statements: YtgekkmibddfakaaTotals.lean).
  GIVEN WITH THE SEED: the statements are not yours to turn. If you find one false, say at which input.
  Laid BY PROGRAM, IN A SANDBOX (cutbox-rows.mjs): the forced cells as the released guide's own fill.sh prints them over the translation 368be12566f9c23f… (all of the seat's roots in one cut). By AI agents, Wed Nov 11 2026. No macro, syntax, notation, axiom, sorry.
-/
import Derived.Test.YtgekkmibddfakaaChecked
import GoSem.Claim
import GoSem.ClaimJoined
import GoSem.ClaimMapViews
import Derived.JoinedTies
import Derived.KernelRfl
namespace Go.Proofs.Ytgekkmibddfakaa
/- THE CELL 'sum', in the pinned program and in every row, IS THE sha256 OF THE DUMP (.gsa) THAT YtgekkmibddfakaaProg.lean LOADS. Nothing in Lean hashes anything: it is a label: what it is worth is what the hold of that sum in a sandbox is worth. -/
noncomputable def Try.pinned : Pinned := { name := "ytgekkmibddfakaa", sum := "368be12566f9c23fa93c39447aaac821604fef40b36b6379b459efd21265205a", checked := Try.checked }
namespace Rows
def none {H : Type} : Left H := { results := [], args := [] }

/-- 'laws.FnExactGoodRat': WHATEVER THE INPUT: true; the input reads as it did. -/
def fnExactGoodRatSpec : ChangeSpec := { name := "fnExactGoodRat", fn := fun _ => fun
  | [d] => { results := [.lit (.bool true)], args := [d] }
  | _ => none }
def fnExactGoodRatRow : OpenClaim := { program := "ytgekkmibddfakaa", sum := "368be12566f9c23fa93c39447aaac821604fef40b36b6379b459efd21265205a", func := "loop.example/g00409/laws.FnExactGoodRat", spec := "fnExactGoodRat", apart := false }
def FnExactGoodRatSaid : Prop := fnExactGoodRatRow.holds Try.pinned (OpenSpec.ofChange fnExactGoodRatSpec)

/-- ITS FALSE NEIGHBOUR: 'it returns false'. Refute it at one input. -/
def fnExactGoodRatWrong : ChangeSpec := { name := "fnExactGoodRat", fn := fun _ => fun
  | [d] => { results := [.lit (.bool false)], args := [d] }
  | _ => none }
def FnExactGoodRatWrongFalsely : Prop := fnExactGoodRatRow.holds Try.pinned (OpenSpec.ofChange fnExactGoodRatWrong)

/-- 'laws.FnExactRatOf': WHATEVER THE INPUT: true; the input reads as it did. -/
def fnExactRatOfSpec : ChangeSpec := { name := "fnExactRatOf", fn := fun _ => fun
  | [d1, d2] => { results := [.lit (.bool true)], args := [d1, d2] }
  | _ => none }
def fnExactRatOfRow : OpenClaim := { program := "ytgekkmibddfakaa", sum := "368be12566f9c23fa93c39447aaac821604fef40b36b6379b459efd21265205a", func := "loop.example/g00409/laws.FnExactRatOf", spec := "fnExactRatOf", apart := false }
def FnExactRatOfSaid : Prop := fnExactRatOfRow.holds Try.pinned (OpenSpec.ofChange fnExactRatOfSpec)

/-- ITS FALSE NEIGHBOUR: 'it returns false'. Refute it at one input. -/
def fnExactRatOfWrong : ChangeSpec := { name := "fnExactRatOf", fn := fun _ => fun
  | [d1, d2] => { results := [.lit (.bool false)], args := [d1, d2] }
  | _ => none }
def FnExactRatOfWrongFalsely : Prop := fnExactRatOfRow.holds Try.pinned (OpenSpec.ofChange fnExactRatOfWrong)

/-- 'laws.FnExactCompareRat': WHATEVER THE INPUT: true; the input reads as it did. -/
def fnExactCompareRatSpec : ChangeSpec := { name := "fnExactCompareRat", fn := fun _ => fun
  | [d1, d2] => { results := [.lit (.bool true)], args := [d1, d2] }
  | _ => none }
def fnExactCompareRatRow : OpenClaim := { program := "ytgekkmibddfakaa", sum := "368be12566f9c23fa93c39447aaac821604fef40b36b6379b459efd21265205a", func := "loop.example/g00409/laws.FnExactCompareRat", spec := "fnExactCompareRat", unfollowed := true, recurses := true, apart := false }
def FnExactCompareRatSaid : Prop := fnExactCompareRatRow.holds Try.pinned (OpenSpec.ofChange fnExactCompareRatSpec)

/-- ITS FALSE NEIGHBOUR: 'it returns false'. Refute it at one input. -/
def fnExactCompareRatWrong : ChangeSpec := { name := "fnExactCompareRat", fn := fun _ => fun
  | [d1, d2] => { results := [.lit (.bool false)], args := [d1, d2] }
  | _ => none }
def FnExactCompareRatWrongFalsely : Prop := fnExactCompareRatRow.holds Try.pinned (OpenSpec.ofChange fnExactCompareRatWrong)

/-- 'laws.FnExactAddRat': WHATEVER THE INPUT: true; the input reads as it did. -/
def fnExactAddRatSpec : ChangeSpec := { name := "fnExactAddRat", fn := fun _ => fun
  | [d1, d2] => { results := [.lit (.bool true)], args := [d1, d2] }
  | _ => none }
def fnExactAddRatRow : OpenClaim := { program := "ytgekkmibddfakaa", sum := "368be12566f9c23fa93c39447aaac821604fef40b36b6379b459efd21265205a", func := "loop.example/g00409/laws.FnExactAddRat", spec := "fnExactAddRat", unfollowed := true, recurses := true, apart := false }
def FnExactAddRatSaid : Prop := fnExactAddRatRow.holds Try.pinned (OpenSpec.ofChange fnExactAddRatSpec)

/-- ITS FALSE NEIGHBOUR: 'it returns false'. Refute it at one input. -/
def fnExactAddRatWrong : ChangeSpec := { name := "fnExactAddRat", fn := fun _ => fun
  | [d1, d2] => { results := [.lit (.bool false)], args := [d1, d2] }
  | _ => none }
def FnExactAddRatWrongFalsely : Prop := fnExactAddRatRow.holds Try.pinned (OpenSpec.ofChange fnExactAddRatWrong)

/-- 'laws.FnExactSubRat': WHATEVER THE INPUT: true; the input reads as it did. -/
def fnExactSubRatSpec : ChangeSpec := { name := "fnExactSubRat", fn := fun _ => fun
  | [d1, d2] => { results := [.lit (.bool true)], args := [d1, d2] }
  | _ => none }
def fnExactSubRatRow : OpenClaim := { program := "ytgekkmibddfakaa", sum := "368be12566f9c23fa93c39447aaac821604fef40b36b6379b459efd21265205a", func := "loop.example/g00409/laws.FnExactSubRat", spec := "fnExactSubRat", unfollowed := true, recurses := true, apart := false }
def FnExactSubRatSaid : Prop := fnExactSubRatRow.holds Try.pinned (OpenSpec.ofChange fnExactSubRatSpec)

/-- ITS FALSE NEIGHBOUR: 'it returns false'. Refute it at one input. -/
def fnExactSubRatWrong : ChangeSpec := { name := "fnExactSubRat", fn := fun _ => fun
  | [d1, d2] => { results := [.lit (.bool false)], args := [d1, d2] }
  | _ => none }
def FnExactSubRatWrongFalsely : Prop := fnExactSubRatRow.holds Try.pinned (OpenSpec.ofChange fnExactSubRatWrong)

/-- 'laws.FnExactMulRat': WHATEVER THE INPUT: true; the input reads as it did. -/
def fnExactMulRatSpec : ChangeSpec := { name := "fnExactMulRat", fn := fun _ => fun
  | [d1, d2] => { results := [.lit (.bool true)], args := [d1, d2] }
  | _ => none }
def fnExactMulRatRow : OpenClaim := { program := "ytgekkmibddfakaa", sum := "368be12566f9c23fa93c39447aaac821604fef40b36b6379b459efd21265205a", func := "loop.example/g00409/laws.FnExactMulRat", spec := "fnExactMulRat", unfollowed := true, recurses := true, apart := false }
def FnExactMulRatSaid : Prop := fnExactMulRatRow.holds Try.pinned (OpenSpec.ofChange fnExactMulRatSpec)

/-- ITS FALSE NEIGHBOUR: 'it returns false'. Refute it at one input. -/
def fnExactMulRatWrong : ChangeSpec := { name := "fnExactMulRat", fn := fun _ => fun
  | [d1, d2] => { results := [.lit (.bool false)], args := [d1, d2] }
  | _ => none }
def FnExactMulRatWrongFalsely : Prop := fnExactMulRatRow.holds Try.pinned (OpenSpec.ofChange fnExactMulRatWrong)

/-- 'laws.FnExactDivRat': WHATEVER THE INPUT: true; the input reads as it did. -/
def fnExactDivRatSpec : ChangeSpec := { name := "fnExactDivRat", fn := fun _ => fun
  | [d1, d2] => { results := [.lit (.bool true)], args := [d1, d2] }
  | _ => none }
def fnExactDivRatRow : OpenClaim := { program := "ytgekkmibddfakaa", sum := "368be12566f9c23fa93c39447aaac821604fef40b36b6379b459efd21265205a", func := "loop.example/g00409/laws.FnExactDivRat", spec := "fnExactDivRat", unfollowed := true, recurses := true, apart := false }
def FnExactDivRatSaid : Prop := fnExactDivRatRow.holds Try.pinned (OpenSpec.ofChange fnExactDivRatSpec)

/-- ITS FALSE NEIGHBOUR: 'it returns false'. Refute it at one input. -/
def fnExactDivRatWrong : ChangeSpec := { name := "fnExactDivRat", fn := fun _ => fun
  | [d1, d2] => { results := [.lit (.bool false)], args := [d1, d2] }
  | _ => none }
def FnExactDivRatWrongFalsely : Prop := fnExactDivRatRow.holds Try.pinned (OpenSpec.ofChange fnExactDivRatWrong)

/-- 'laws.FnExactFloorRat': WHATEVER THE INPUT: true; the input reads as it did. -/
def fnExactFloorRatSpec : ChangeSpec := { name := "fnExactFloorRat", fn := fun _ => fun
  | [d] => { results := [.lit (.bool true)], args := [d] }
  | _ => none }
def fnExactFloorRatRow : OpenClaim := { program := "ytgekkmibddfakaa", sum := "368be12566f9c23fa93c39447aaac821604fef40b36b6379b459efd21265205a", func := "loop.example/g00409/laws.FnExactFloorRat", spec := "fnExactFloorRat", unfollowed := true, recurses := true, apart := false }
def FnExactFloorRatSaid : Prop := fnExactFloorRatRow.holds Try.pinned (OpenSpec.ofChange fnExactFloorRatSpec)

/-- ITS FALSE NEIGHBOUR: 'it returns false'. Refute it at one input. -/
def fnExactFloorRatWrong : ChangeSpec := { name := "fnExactFloorRat", fn := fun _ => fun
  | [d] => { results := [.lit (.bool false)], args := [d] }
  | _ => none }
def FnExactFloorRatWrongFalsely : Prop := fnExactFloorRatRow.holds Try.pinned (OpenSpec.ofChange fnExactFloorRatWrong)

/-- 'laws.FnExactTermsOf': WHATEVER THE INPUT: true; the input reads as it did. -/
def fnExactTermsOfSpec : ChangeSpec := { name := "fnExactTermsOf", fn := fun _ => fun
  | [d] => { results := [.lit (.bool true)], args := [d] }
  | _ => none }
def fnExactTermsOfRow : OpenClaim := { program := "ytgekkmibddfakaa", sum := "368be12566f9c23fa93c39447aaac821604fef40b36b6379b459efd21265205a", func := "loop.example/g00409/laws.FnExactTermsOf", spec := "fnExactTermsOf", unfollowed := true, recurses := true, apart := false }
def FnExactTermsOfSaid : Prop := fnExactTermsOfRow.holds Try.pinned (OpenSpec.ofChange fnExactTermsOfSpec)

/-- ITS FALSE NEIGHBOUR: 'it returns false'. Refute it at one input. -/
def fnExactTermsOfWrong : ChangeSpec := { name := "fnExactTermsOf", fn := fun _ => fun
  | [d] => { results := [.lit (.bool false)], args := [d] }
  | _ => none }
def FnExactTermsOfWrongFalsely : Prop := fnExactTermsOfRow.holds Try.pinned (OpenSpec.ofChange fnExactTermsOfWrong)

/-- 'laws.FnExactFromTerms': WHATEVER THE INPUT: true; the input reads as it did. -/
def fnExactFromTermsSpec : ChangeSpec := { name := "fnExactFromTerms", fn := fun _ => fun
  | [d] => { results := [.lit (.bool true)], args := [d] }
  | _ => none }
def fnExactFromTermsRow : OpenClaim := { program := "ytgekkmibddfakaa", sum := "368be12566f9c23fa93c39447aaac821604fef40b36b6379b459efd21265205a", func := "loop.example/g00409/laws.FnExactFromTerms", spec := "fnExactFromTerms", unfollowed := true, recurses := true, apart := false }
def FnExactFromTermsSaid : Prop := fnExactFromTermsRow.holds Try.pinned (OpenSpec.ofChange fnExactFromTermsSpec)

/-- ITS FALSE NEIGHBOUR: 'it returns false'. Refute it at one input. -/
def fnExactFromTermsWrong : ChangeSpec := { name := "fnExactFromTerms", fn := fun _ => fun
  | [d] => { results := [.lit (.bool false)], args := [d] }
  | _ => none }
def FnExactFromTermsWrongFalsely : Prop := fnExactFromTermsRow.holds Try.pinned (OpenSpec.ofChange fnExactFromTermsWrong)

/-- 'laws.FnExactSimplestIn': WHATEVER THE INPUT: true; the input reads as it did. -/
def fnExactSimplestInSpec : ChangeSpec := { name := "fnExactSimplestIn", fn := fun _ => fun
  | [d1, d2] => { results := [.lit (.bool true)], args := [d1, d2] }
  | _ => none }
def fnExactSimplestInRow : OpenClaim := { program := "ytgekkmibddfakaa", sum := "368be12566f9c23fa93c39447aaac821604fef40b36b6379b459efd21265205a", func := "loop.example/g00409/laws.FnExactSimplestIn", spec := "fnExactSimplestIn", unfollowed := true, recurses := true, apart := false }
def FnExactSimplestInSaid : Prop := fnExactSimplestInRow.holds Try.pinned (OpenSpec.ofChange fnExactSimplestInSpec)

/-- ITS FALSE NEIGHBOUR: 'it returns false'. Refute it at one input. -/
def fnExactSimplestInWrong : ChangeSpec := { name := "fnExactSimplestIn", fn := fun _ => fun
  | [d1, d2] => { results := [.lit (.bool false)], args := [d1, d2] }
  | _ => none }
def FnExactSimplestInWrongFalsely : Prop := fnExactSimplestInRow.holds Try.pinned (OpenSpec.ofChange fnExactSimplestInWrong)

/-- 'laws.FnExactGoodSpan': WHATEVER THE INPUT: true; the input reads as it did. -/
def fnExactGoodSpanSpec : ChangeSpec := { name := "fnExactGoodSpan", fn := fun _ => fun
  | [d] => { results := [.lit (.bool true)], args := [d] }
  | _ => none }
def fnExactGoodSpanRow : OpenClaim := { program := "ytgekkmibddfakaa", sum := "368be12566f9c23fa93c39447aaac821604fef40b36b6379b459efd21265205a", func := "loop.example/g00409/laws.FnExactGoodSpan", spec := "fnExactGoodSpan", apart := false }
def FnExactGoodSpanSaid : Prop := fnExactGoodSpanRow.holds Try.pinned (OpenSpec.ofChange fnExactGoodSpanSpec)

/-- ITS FALSE NEIGHBOUR: 'it returns false'. Refute it at one input. -/
def fnExactGoodSpanWrong : ChangeSpec := { name := "fnExactGoodSpan", fn := fun _ => fun
  | [d] => { results := [.lit (.bool false)], args := [d] }
  | _ => none }
def FnExactGoodSpanWrongFalsely : Prop := fnExactGoodSpanRow.holds Try.pinned (OpenSpec.ofChange fnExactGoodSpanWrong)

/-- 'laws.FnExactPointSpan': WHATEVER THE INPUT: true; the input reads as it did. -/
def fnExactPointSpanSpec : ChangeSpec := { name := "fnExactPointSpan", fn := fun _ => fun
  | [d] => { results := [.lit (.bool true)], args := [d] }
  | _ => none }
def fnExactPointSpanRow : OpenClaim := { program := "ytgekkmibddfakaa", sum := "368be12566f9c23fa93c39447aaac821604fef40b36b6379b459efd21265205a", func := "loop.example/g00409/laws.FnExactPointSpan", spec := "fnExactPointSpan", apart := false }
def FnExactPointSpanSaid : Prop := fnExactPointSpanRow.holds Try.pinned (OpenSpec.ofChange fnExactPointSpanSpec)

/-- ITS FALSE NEIGHBOUR: 'it returns false'. Refute it at one input. -/
def fnExactPointSpanWrong : ChangeSpec := { name := "fnExactPointSpan", fn := fun _ => fun
  | [d] => { results := [.lit (.bool false)], args := [d] }
  | _ => none }
def FnExactPointSpanWrongFalsely : Prop := fnExactPointSpanRow.holds Try.pinned (OpenSpec.ofChange fnExactPointSpanWrong)

/-- 'laws.FnExactInSpan': WHATEVER THE INPUT: true; the input reads as it did. -/
def fnExactInSpanSpec : ChangeSpec := { name := "fnExactInSpan", fn := fun _ => fun
  | [d1, d2] => { results := [.lit (.bool true)], args := [d1, d2] }
  | _ => none }
def fnExactInSpanRow : OpenClaim := { program := "ytgekkmibddfakaa", sum := "368be12566f9c23fa93c39447aaac821604fef40b36b6379b459efd21265205a", func := "loop.example/g00409/laws.FnExactInSpan", spec := "fnExactInSpan", apart := false }
def FnExactInSpanSaid : Prop := fnExactInSpanRow.holds Try.pinned (OpenSpec.ofChange fnExactInSpanSpec)

/-- ITS FALSE NEIGHBOUR: 'it returns false'. Refute it at one input. -/
def fnExactInSpanWrong : ChangeSpec := { name := "fnExactInSpan", fn := fun _ => fun
  | [d1, d2] => { results := [.lit (.bool false)], args := [d1, d2] }
  | _ => none }
def FnExactInSpanWrongFalsely : Prop := fnExactInSpanRow.holds Try.pinned (OpenSpec.ofChange fnExactInSpanWrong)

/-- 'laws.FnExactAddSpan': WHATEVER THE INPUT: true; the input reads as it did. -/
def fnExactAddSpanSpec : ChangeSpec := { name := "fnExactAddSpan", fn := fun _ => fun
  | [d1, d2] => { results := [.lit (.bool true)], args := [d1, d2] }
  | _ => none }
def fnExactAddSpanRow : OpenClaim := { program := "ytgekkmibddfakaa", sum := "368be12566f9c23fa93c39447aaac821604fef40b36b6379b459efd21265205a", func := "loop.example/g00409/laws.FnExactAddSpan", spec := "fnExactAddSpan", unfollowed := true, recurses := true, apart := false }
def FnExactAddSpanSaid : Prop := fnExactAddSpanRow.holds Try.pinned (OpenSpec.ofChange fnExactAddSpanSpec)

/-- ITS FALSE NEIGHBOUR: 'it returns false'. Refute it at one input. -/
def fnExactAddSpanWrong : ChangeSpec := { name := "fnExactAddSpan", fn := fun _ => fun
  | [d1, d2] => { results := [.lit (.bool false)], args := [d1, d2] }
  | _ => none }
def FnExactAddSpanWrongFalsely : Prop := fnExactAddSpanRow.holds Try.pinned (OpenSpec.ofChange fnExactAddSpanWrong)

/-- 'laws.FnExactSubSpan': WHATEVER THE INPUT: true; the input reads as it did. -/
def fnExactSubSpanSpec : ChangeSpec := { name := "fnExactSubSpan", fn := fun _ => fun
  | [d1, d2] => { results := [.lit (.bool true)], args := [d1, d2] }
  | _ => none }
def fnExactSubSpanRow : OpenClaim := { program := "ytgekkmibddfakaa", sum := "368be12566f9c23fa93c39447aaac821604fef40b36b6379b459efd21265205a", func := "loop.example/g00409/laws.FnExactSubSpan", spec := "fnExactSubSpan", unfollowed := true, recurses := true, apart := false }
def FnExactSubSpanSaid : Prop := fnExactSubSpanRow.holds Try.pinned (OpenSpec.ofChange fnExactSubSpanSpec)

/-- ITS FALSE NEIGHBOUR: 'it returns false'. Refute it at one input. -/
def fnExactSubSpanWrong : ChangeSpec := { name := "fnExactSubSpan", fn := fun _ => fun
  | [d1, d2] => { results := [.lit (.bool false)], args := [d1, d2] }
  | _ => none }
def FnExactSubSpanWrongFalsely : Prop := fnExactSubSpanRow.holds Try.pinned (OpenSpec.ofChange fnExactSubSpanWrong)

/-- 'laws.FnExactMulSpan': WHATEVER THE INPUT: true; the input reads as it did. -/
def fnExactMulSpanSpec : ChangeSpec := { name := "fnExactMulSpan", fn := fun _ => fun
  | [d1, d2] => { results := [.lit (.bool true)], args := [d1, d2] }
  | _ => none }
def fnExactMulSpanRow : OpenClaim := { program := "ytgekkmibddfakaa", sum := "368be12566f9c23fa93c39447aaac821604fef40b36b6379b459efd21265205a", func := "loop.example/g00409/laws.FnExactMulSpan", spec := "fnExactMulSpan", unfollowed := true, recurses := true, apart := false }
def FnExactMulSpanSaid : Prop := fnExactMulSpanRow.holds Try.pinned (OpenSpec.ofChange fnExactMulSpanSpec)

/-- ITS FALSE NEIGHBOUR: 'it returns false'. Refute it at one input. -/
def fnExactMulSpanWrong : ChangeSpec := { name := "fnExactMulSpan", fn := fun _ => fun
  | [d1, d2] => { results := [.lit (.bool false)], args := [d1, d2] }
  | _ => none }
def FnExactMulSpanWrongFalsely : Prop := fnExactMulSpanRow.holds Try.pinned (OpenSpec.ofChange fnExactMulSpanWrong)

/-- 'laws.FnExactInvertSpan': WHATEVER THE INPUT: true; the input reads as it did. -/
def fnExactInvertSpanSpec : ChangeSpec := { name := "fnExactInvertSpan", fn := fun _ => fun
  | [d] => { results := [.lit (.bool true)], args := [d] }
  | _ => none }
def fnExactInvertSpanRow : OpenClaim := { program := "ytgekkmibddfakaa", sum := "368be12566f9c23fa93c39447aaac821604fef40b36b6379b459efd21265205a", func := "loop.example/g00409/laws.FnExactInvertSpan", spec := "fnExactInvertSpan", unfollowed := true, recurses := true, apart := false }
def FnExactInvertSpanSaid : Prop := fnExactInvertSpanRow.holds Try.pinned (OpenSpec.ofChange fnExactInvertSpanSpec)

/-- ITS FALSE NEIGHBOUR: 'it returns false'. Refute it at one input. -/
def fnExactInvertSpanWrong : ChangeSpec := { name := "fnExactInvertSpan", fn := fun _ => fun
  | [d] => { results := [.lit (.bool false)], args := [d] }
  | _ => none }
def FnExactInvertSpanWrongFalsely : Prop := fnExactInvertSpanRow.holds Try.pinned (OpenSpec.ofChange fnExactInvertSpanWrong)

/-- 'laws.FnExactJoinSpan': WHATEVER THE INPUT: true; the input reads as it did. -/
def fnExactJoinSpanSpec : ChangeSpec := { name := "fnExactJoinSpan", fn := fun _ => fun
  | [d1, d2] => { results := [.lit (.bool true)], args := [d1, d2] }
  | _ => none }
def fnExactJoinSpanRow : OpenClaim := { program := "ytgekkmibddfakaa", sum := "368be12566f9c23fa93c39447aaac821604fef40b36b6379b459efd21265205a", func := "loop.example/g00409/laws.FnExactJoinSpan", spec := "fnExactJoinSpan", unfollowed := true, recurses := true, apart := false }
def FnExactJoinSpanSaid : Prop := fnExactJoinSpanRow.holds Try.pinned (OpenSpec.ofChange fnExactJoinSpanSpec)

/-- ITS FALSE NEIGHBOUR: 'it returns false'. Refute it at one input. -/
def fnExactJoinSpanWrong : ChangeSpec := { name := "fnExactJoinSpan", fn := fun _ => fun
  | [d1, d2] => { results := [.lit (.bool false)], args := [d1, d2] }
  | _ => none }
def FnExactJoinSpanWrongFalsely : Prop := fnExactJoinSpanRow.holds Try.pinned (OpenSpec.ofChange fnExactJoinSpanWrong)

/-- 'laws.FnExactWidthOf': WHATEVER THE INPUT: true; the input reads as it did. -/
def fnExactWidthOfSpec : ChangeSpec := { name := "fnExactWidthOf", fn := fun _ => fun
  | [d] => { results := [.lit (.bool true)], args := [d] }
  | _ => none }
def fnExactWidthOfRow : OpenClaim := { program := "ytgekkmibddfakaa", sum := "368be12566f9c23fa93c39447aaac821604fef40b36b6379b459efd21265205a", func := "loop.example/g00409/laws.FnExactWidthOf", spec := "fnExactWidthOf", unfollowed := true, recurses := true, apart := false }
def FnExactWidthOfSaid : Prop := fnExactWidthOfRow.holds Try.pinned (OpenSpec.ofChange fnExactWidthOfSpec)

/-- ITS FALSE NEIGHBOUR: 'it returns false'. Refute it at one input. -/
def fnExactWidthOfWrong : ChangeSpec := { name := "fnExactWidthOf", fn := fun _ => fun
  | [d] => { results := [.lit (.bool false)], args := [d] }
  | _ => none }
def FnExactWidthOfWrongFalsely : Prop := fnExactWidthOfRow.holds Try.pinned (OpenSpec.ofChange fnExactWidthOfWrong)

/-- 'laws.FnExactSquareSpan': WHATEVER THE INPUT: true; the input reads as it did. -/
def fnExactSquareSpanSpec : ChangeSpec := { name := "fnExactSquareSpan", fn := fun _ => fun
  | [d] => { results := [.lit (.bool true)], args := [d] }
  | _ => none }
def fnExactSquareSpanRow : OpenClaim := { program := "ytgekkmibddfakaa", sum := "368be12566f9c23fa93c39447aaac821604fef40b36b6379b459efd21265205a", func := "loop.example/g00409/laws.FnExactSquareSpan", spec := "fnExactSquareSpan", unfollowed := true, recurses := true, apart := false }
def FnExactSquareSpanSaid : Prop := fnExactSquareSpanRow.holds Try.pinned (OpenSpec.ofChange fnExactSquareSpanSpec)

/-- ITS FALSE NEIGHBOUR: 'it returns false'. Refute it at one input. -/
def fnExactSquareSpanWrong : ChangeSpec := { name := "fnExactSquareSpan", fn := fun _ => fun
  | [d] => { results := [.lit (.bool false)], args := [d] }
  | _ => none }
def FnExactSquareSpanWrongFalsely : Prop := fnExactSquareSpanRow.holds Try.pinned (OpenSpec.ofChange fnExactSquareSpanWrong)

/-- 'laws.FnExactRootSpan': WHATEVER THE INPUT: true; the input reads as it did. -/
def fnExactRootSpanSpec : ChangeSpec := { name := "fnExactRootSpan", fn := fun _ => fun
  | [d1, d2] => { results := [.lit (.bool true)], args := [d1, d2] }
  | _ => none }
def fnExactRootSpanRow : OpenClaim := { program := "ytgekkmibddfakaa", sum := "368be12566f9c23fa93c39447aaac821604fef40b36b6379b459efd21265205a", func := "loop.example/g00409/laws.FnExactRootSpan", spec := "fnExactRootSpan", apart := false }
def FnExactRootSpanSaid : Prop := fnExactRootSpanRow.holds Try.pinned (OpenSpec.ofChange fnExactRootSpanSpec)

/-- ITS FALSE NEIGHBOUR: 'it returns false'. Refute it at one input. -/
def fnExactRootSpanWrong : ChangeSpec := { name := "fnExactRootSpan", fn := fun _ => fun
  | [d1, d2] => { results := [.lit (.bool false)], args := [d1, d2] }
  | _ => none }
def FnExactRootSpanWrongFalsely : Prop := fnExactRootSpanRow.holds Try.pinned (OpenSpec.ofChange fnExactRootSpanWrong)

/- THE SECOND FORM. 'bulk': how many values and letters a reading holds, each counted each time it is reached (what is shared counts as often as it is met; a slice's spare places count too). A statement '..UptoSaid' is the law's where the arguments, and the package variables that the reading takes, are together of bulk at most 1048576: NARROWER than '..Said'. Prove '..Said' where nothing that the law and all that it calls make is longer than what came in: it says more and counts as full. Else prove '..UptoSaid'. A law counts once. -/
mutual
def uptoBulk {H : Type} : DataW H → Nat
  | .lit (.string bytes) => bytes.length + 1
  | .lit _ => 1
  | .nil => 1
  | .ptr d => uptoBulk d + 1
  | .slice elems spare => uptoBulkAll elems + uptoBulkAll spare + 1
  | .agg parts => uptoBulkAll parts + 1
  | .iface _ d => uptoBulk d + 1
  | .map entries => uptoBulkEntries entries + 1
  | .held _ => 1
def uptoBulkAll {H : Type} : List (DataW H) → Nat
  | [] => 0
  | d :: r => uptoBulk d + uptoBulkAll r
def uptoBulkEntries {H : Type} : List (Lit × DataW H) → Nat
  | [] => 0
  | x :: r => uptoBulkEntry x + uptoBulkEntries r
def uptoBulkEntry {H : Type} : Lit × DataW H → Nat
  | (.string bytes, d) => bytes.length + uptoBulk d + 1
  | (_, d) => uptoBulk d + 1
 end
def uptoSmall : (H : Type) → List (DataW H) → Bool := fun _ ds => decide (uptoBulkAll ds ≤ 1048576)
def OpenSpec.upto (s : _root_.Go.ChangeSpec) : _root_.Go.OpenSpec := { _root_.Go.OpenSpec.ofChange s with cond := some uptoSmall }

/-- 'laws.FnExactGoodRat', WHERE WHAT IT READS IS OF BULK AT MOST 1048576: true; the input reads as it did. -/
def fnExactGoodRatUptoRow : OpenClaim := { program := "ytgekkmibddfakaa", sum := "368be12566f9c23fa93c39447aaac821604fef40b36b6379b459efd21265205a", func := "loop.example/g00409/laws.FnExactGoodRat", spec := "fnExactGoodRat", apart := false, narrowed := true }
def FnExactGoodRatUptoSaid : Prop := fnExactGoodRatUptoRow.holds Try.pinned (OpenSpec.upto fnExactGoodRatSpec)

/-- 'laws.FnExactRatOf', WHERE WHAT IT READS IS OF BULK AT MOST 1048576: true; the input reads as it did. -/
def fnExactRatOfUptoRow : OpenClaim := { program := "ytgekkmibddfakaa", sum := "368be12566f9c23fa93c39447aaac821604fef40b36b6379b459efd21265205a", func := "loop.example/g00409/laws.FnExactRatOf", spec := "fnExactRatOf", apart := false, narrowed := true }
def FnExactRatOfUptoSaid : Prop := fnExactRatOfUptoRow.holds Try.pinned (OpenSpec.upto fnExactRatOfSpec)

/-- 'laws.FnExactCompareRat', WHERE WHAT IT READS IS OF BULK AT MOST 1048576: true; the input reads as it did. -/
def fnExactCompareRatUptoRow : OpenClaim := { program := "ytgekkmibddfakaa", sum := "368be12566f9c23fa93c39447aaac821604fef40b36b6379b459efd21265205a", func := "loop.example/g00409/laws.FnExactCompareRat", spec := "fnExactCompareRat", unfollowed := true, recurses := true, apart := false, narrowed := true }
def FnExactCompareRatUptoSaid : Prop := fnExactCompareRatUptoRow.holds Try.pinned (OpenSpec.upto fnExactCompareRatSpec)

/-- 'laws.FnExactAddRat', WHERE WHAT IT READS IS OF BULK AT MOST 1048576: true; the input reads as it did. -/
def fnExactAddRatUptoRow : OpenClaim := { program := "ytgekkmibddfakaa", sum := "368be12566f9c23fa93c39447aaac821604fef40b36b6379b459efd21265205a", func := "loop.example/g00409/laws.FnExactAddRat", spec := "fnExactAddRat", unfollowed := true, recurses := true, apart := false, narrowed := true }
def FnExactAddRatUptoSaid : Prop := fnExactAddRatUptoRow.holds Try.pinned (OpenSpec.upto fnExactAddRatSpec)

/-- 'laws.FnExactSubRat', WHERE WHAT IT READS IS OF BULK AT MOST 1048576: true; the input reads as it did. -/
def fnExactSubRatUptoRow : OpenClaim := { program := "ytgekkmibddfakaa", sum := "368be12566f9c23fa93c39447aaac821604fef40b36b6379b459efd21265205a", func := "loop.example/g00409/laws.FnExactSubRat", spec := "fnExactSubRat", unfollowed := true, recurses := true, apart := false, narrowed := true }
def FnExactSubRatUptoSaid : Prop := fnExactSubRatUptoRow.holds Try.pinned (OpenSpec.upto fnExactSubRatSpec)

/-- 'laws.FnExactMulRat', WHERE WHAT IT READS IS OF BULK AT MOST 1048576: true; the input reads as it did. -/
def fnExactMulRatUptoRow : OpenClaim := { program := "ytgekkmibddfakaa", sum := "368be12566f9c23fa93c39447aaac821604fef40b36b6379b459efd21265205a", func := "loop.example/g00409/laws.FnExactMulRat", spec := "fnExactMulRat", unfollowed := true, recurses := true, apart := false, narrowed := true }
def FnExactMulRatUptoSaid : Prop := fnExactMulRatUptoRow.holds Try.pinned (OpenSpec.upto fnExactMulRatSpec)

/-- 'laws.FnExactDivRat', WHERE WHAT IT READS IS OF BULK AT MOST 1048576: true; the input reads as it did. -/
def fnExactDivRatUptoRow : OpenClaim := { program := "ytgekkmibddfakaa", sum := "368be12566f9c23fa93c39447aaac821604fef40b36b6379b459efd21265205a", func := "loop.example/g00409/laws.FnExactDivRat", spec := "fnExactDivRat", unfollowed := true, recurses := true, apart := false, narrowed := true }
def FnExactDivRatUptoSaid : Prop := fnExactDivRatUptoRow.holds Try.pinned (OpenSpec.upto fnExactDivRatSpec)

/-- 'laws.FnExactFloorRat', WHERE WHAT IT READS IS OF BULK AT MOST 1048576: true; the input reads as it did. -/
def fnExactFloorRatUptoRow : OpenClaim := { program := "ytgekkmibddfakaa", sum := "368be12566f9c23fa93c39447aaac821604fef40b36b6379b459efd21265205a", func := "loop.example/g00409/laws.FnExactFloorRat", spec := "fnExactFloorRat", unfollowed := true, recurses := true, apart := false, narrowed := true }
def FnExactFloorRatUptoSaid : Prop := fnExactFloorRatUptoRow.holds Try.pinned (OpenSpec.upto fnExactFloorRatSpec)

/-- 'laws.FnExactTermsOf', WHERE WHAT IT READS IS OF BULK AT MOST 1048576: true; the input reads as it did. -/
def fnExactTermsOfUptoRow : OpenClaim := { program := "ytgekkmibddfakaa", sum := "368be12566f9c23fa93c39447aaac821604fef40b36b6379b459efd21265205a", func := "loop.example/g00409/laws.FnExactTermsOf", spec := "fnExactTermsOf", unfollowed := true, recurses := true, apart := false, narrowed := true }
def FnExactTermsOfUptoSaid : Prop := fnExactTermsOfUptoRow.holds Try.pinned (OpenSpec.upto fnExactTermsOfSpec)

/-- 'laws.FnExactFromTerms', WHERE WHAT IT READS IS OF BULK AT MOST 1048576: true; the input reads as it did. -/
def fnExactFromTermsUptoRow : OpenClaim := { program := "ytgekkmibddfakaa", sum := "368be12566f9c23fa93c39447aaac821604fef40b36b6379b459efd21265205a", func := "loop.example/g00409/laws.FnExactFromTerms", spec := "fnExactFromTerms", unfollowed := true, recurses := true, apart := false, narrowed := true }
def FnExactFromTermsUptoSaid : Prop := fnExactFromTermsUptoRow.holds Try.pinned (OpenSpec.upto fnExactFromTermsSpec)

/-- 'laws.FnExactSimplestIn', WHERE WHAT IT READS IS OF BULK AT MOST 1048576: true; the input reads as it did. -/
def fnExactSimplestInUptoRow : OpenClaim := { program := "ytgekkmibddfakaa", sum := "368be12566f9c23fa93c39447aaac821604fef40b36b6379b459efd21265205a", func := "loop.example/g00409/laws.FnExactSimplestIn", spec := "fnExactSimplestIn", unfollowed := true, recurses := true, apart := false, narrowed := true }
def FnExactSimplestInUptoSaid : Prop := fnExactSimplestInUptoRow.holds Try.pinned (OpenSpec.upto fnExactSimplestInSpec)

/-- 'laws.FnExactGoodSpan', WHERE WHAT IT READS IS OF BULK AT MOST 1048576: true; the input reads as it did. -/
def fnExactGoodSpanUptoRow : OpenClaim := { program := "ytgekkmibddfakaa", sum := "368be12566f9c23fa93c39447aaac821604fef40b36b6379b459efd21265205a", func := "loop.example/g00409/laws.FnExactGoodSpan", spec := "fnExactGoodSpan", apart := false, narrowed := true }
def FnExactGoodSpanUptoSaid : Prop := fnExactGoodSpanUptoRow.holds Try.pinned (OpenSpec.upto fnExactGoodSpanSpec)

/-- 'laws.FnExactPointSpan', WHERE WHAT IT READS IS OF BULK AT MOST 1048576: true; the input reads as it did. -/
def fnExactPointSpanUptoRow : OpenClaim := { program := "ytgekkmibddfakaa", sum := "368be12566f9c23fa93c39447aaac821604fef40b36b6379b459efd21265205a", func := "loop.example/g00409/laws.FnExactPointSpan", spec := "fnExactPointSpan", apart := false, narrowed := true }
def FnExactPointSpanUptoSaid : Prop := fnExactPointSpanUptoRow.holds Try.pinned (OpenSpec.upto fnExactPointSpanSpec)

/-- 'laws.FnExactInSpan', WHERE WHAT IT READS IS OF BULK AT MOST 1048576: true; the input reads as it did. -/
def fnExactInSpanUptoRow : OpenClaim := { program := "ytgekkmibddfakaa", sum := "368be12566f9c23fa93c39447aaac821604fef40b36b6379b459efd21265205a", func := "loop.example/g00409/laws.FnExactInSpan", spec := "fnExactInSpan", apart := false, narrowed := true }
def FnExactInSpanUptoSaid : Prop := fnExactInSpanUptoRow.holds Try.pinned (OpenSpec.upto fnExactInSpanSpec)

/-- 'laws.FnExactAddSpan', WHERE WHAT IT READS IS OF BULK AT MOST 1048576: true; the input reads as it did. -/
def fnExactAddSpanUptoRow : OpenClaim := { program := "ytgekkmibddfakaa", sum := "368be12566f9c23fa93c39447aaac821604fef40b36b6379b459efd21265205a", func := "loop.example/g00409/laws.FnExactAddSpan", spec := "fnExactAddSpan", unfollowed := true, recurses := true, apart := false, narrowed := true }
def FnExactAddSpanUptoSaid : Prop := fnExactAddSpanUptoRow.holds Try.pinned (OpenSpec.upto fnExactAddSpanSpec)

/-- 'laws.FnExactSubSpan', WHERE WHAT IT READS IS OF BULK AT MOST 1048576: true; the input reads as it did. -/
def fnExactSubSpanUptoRow : OpenClaim := { program := "ytgekkmibddfakaa", sum := "368be12566f9c23fa93c39447aaac821604fef40b36b6379b459efd21265205a", func := "loop.example/g00409/laws.FnExactSubSpan", spec := "fnExactSubSpan", unfollowed := true, recurses := true, apart := false, narrowed := true }
def FnExactSubSpanUptoSaid : Prop := fnExactSubSpanUptoRow.holds Try.pinned (OpenSpec.upto fnExactSubSpanSpec)

/-- 'laws.FnExactMulSpan', WHERE WHAT IT READS IS OF BULK AT MOST 1048576: true; the input reads as it did. -/
def fnExactMulSpanUptoRow : OpenClaim := { program := "ytgekkmibddfakaa", sum := "368be12566f9c23fa93c39447aaac821604fef40b36b6379b459efd21265205a", func := "loop.example/g00409/laws.FnExactMulSpan", spec := "fnExactMulSpan", unfollowed := true, recurses := true, apart := false, narrowed := true }
def FnExactMulSpanUptoSaid : Prop := fnExactMulSpanUptoRow.holds Try.pinned (OpenSpec.upto fnExactMulSpanSpec)

/-- 'laws.FnExactInvertSpan', WHERE WHAT IT READS IS OF BULK AT MOST 1048576: true; the input reads as it did. -/
def fnExactInvertSpanUptoRow : OpenClaim := { program := "ytgekkmibddfakaa", sum := "368be12566f9c23fa93c39447aaac821604fef40b36b6379b459efd21265205a", func := "loop.example/g00409/laws.FnExactInvertSpan", spec := "fnExactInvertSpan", unfollowed := true, recurses := true, apart := false, narrowed := true }
def FnExactInvertSpanUptoSaid : Prop := fnExactInvertSpanUptoRow.holds Try.pinned (OpenSpec.upto fnExactInvertSpanSpec)

/-- 'laws.FnExactJoinSpan', WHERE WHAT IT READS IS OF BULK AT MOST 1048576: true; the input reads as it did. -/
def fnExactJoinSpanUptoRow : OpenClaim := { program := "ytgekkmibddfakaa", sum := "368be12566f9c23fa93c39447aaac821604fef40b36b6379b459efd21265205a", func := "loop.example/g00409/laws.FnExactJoinSpan", spec := "fnExactJoinSpan", unfollowed := true, recurses := true, apart := false, narrowed := true }
def FnExactJoinSpanUptoSaid : Prop := fnExactJoinSpanUptoRow.holds Try.pinned (OpenSpec.upto fnExactJoinSpanSpec)

/-- 'laws.FnExactWidthOf', WHERE WHAT IT READS IS OF BULK AT MOST 1048576: true; the input reads as it did. -/
def fnExactWidthOfUptoRow : OpenClaim := { program := "ytgekkmibddfakaa", sum := "368be12566f9c23fa93c39447aaac821604fef40b36b6379b459efd21265205a", func := "loop.example/g00409/laws.FnExactWidthOf", spec := "fnExactWidthOf", unfollowed := true, recurses := true, apart := false, narrowed := true }
def FnExactWidthOfUptoSaid : Prop := fnExactWidthOfUptoRow.holds Try.pinned (OpenSpec.upto fnExactWidthOfSpec)

/-- 'laws.FnExactSquareSpan', WHERE WHAT IT READS IS OF BULK AT MOST 1048576: true; the input reads as it did. -/
def fnExactSquareSpanUptoRow : OpenClaim := { program := "ytgekkmibddfakaa", sum := "368be12566f9c23fa93c39447aaac821604fef40b36b6379b459efd21265205a", func := "loop.example/g00409/laws.FnExactSquareSpan", spec := "fnExactSquareSpan", unfollowed := true, recurses := true, apart := false, narrowed := true }
def FnExactSquareSpanUptoSaid : Prop := fnExactSquareSpanUptoRow.holds Try.pinned (OpenSpec.upto fnExactSquareSpanSpec)

/-- 'laws.FnExactRootSpan', WHERE WHAT IT READS IS OF BULK AT MOST 1048576: true; the input reads as it did. -/
def fnExactRootSpanUptoRow : OpenClaim := { program := "ytgekkmibddfakaa", sum := "368be12566f9c23fa93c39447aaac821604fef40b36b6379b459efd21265205a", func := "loop.example/g00409/laws.FnExactRootSpan", spec := "fnExactRootSpan", apart := false, narrowed := true }
def FnExactRootSpanUptoSaid : Prop := fnExactRootSpanUptoRow.holds Try.pinned (OpenSpec.upto fnExactRootSpanSpec)

end Rows
end Go.Proofs.Ytgekkmibddfakaa
