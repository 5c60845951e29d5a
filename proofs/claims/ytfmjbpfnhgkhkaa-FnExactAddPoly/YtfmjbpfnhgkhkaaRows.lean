/-
  No cell of these rows narrows 'for every input' (looked for: loops, veiled, ifaces, maps, wideKeys, modest, calm, conditions, laid).
  DERIVED. THE GIVEN ROWS OF THIS SEAT. 15 by the template 'for every input the law returns true; each argument reads behind the call as it read before'; 0 by the template 'total and deterministic' (their statements: YtfmjbpfnhgkhkaaTotals.lean).
  GIVEN WITH THE SEED: the statements are not yours to turn. If you find one false, say at which input.
  Laid BY PROGRAM, IN A SANDBOX (cutbox-rows.mjs): the forced cells as the released guide's own fill.sh prints them over the translation 5f0dc160b3e18586… (all of the seat's roots in one cut). By AI agents, Wed Nov 11 2026. No macro, syntax, notation, axiom, sorry.
-/
import Derived.Test.YtfmjbpfnhgkhkaaChecked
import GoSem.Claim
import GoSem.ClaimJoined
import GoSem.ClaimMapViews
import Derived.JoinedTies
import Derived.KernelRfl
namespace Go.Proofs.Ytfmjbpfnhgkhkaa
/- THE CELL 'sum', in the pinned program and in every row, IS THE sha256 OF THE DUMP (.gsa) THAT YtfmjbpfnhgkhkaaProg.lean LOADS. Nothing in Lean hashes anything: it is a label: what it is worth is what the hold of that sum in a sandbox is worth. -/
noncomputable def Try.pinned : Pinned := { name := "ytfmjbpfnhgkhkaa", sum := "5f0dc160b3e1858665b3563a40c1c406fbebdb4f632dd960fe472443c5e4249d", checked := Try.checked }
namespace Rows
def none {H : Type} : Left H := { results := [], args := [] }

/-- 'laws.FnExactDivBig': WHATEVER THE INPUT: true; the input reads as it did. -/
def fnExactDivBigSpec : ChangeSpec := { name := "fnExactDivBig", fn := fun _ => fun
  | [d1, d2] => { results := [.lit (.bool true)], args := [d1, d2] }
  | _ => none }
def fnExactDivBigRow : OpenClaim := { program := "ytfmjbpfnhgkhkaa", sum := "5f0dc160b3e1858665b3563a40c1c406fbebdb4f632dd960fe472443c5e4249d", func := "loop.example/g00409/laws.FnExactDivBig", spec := "fnExactDivBig", apart := false }
def FnExactDivBigSaid : Prop := fnExactDivBigRow.holds Try.pinned (OpenSpec.ofChange fnExactDivBigSpec)

/-- ITS FALSE NEIGHBOUR: 'it returns false'. Refute it at one input. -/
def fnExactDivBigWrong : ChangeSpec := { name := "fnExactDivBig", fn := fun _ => fun
  | [d1, d2] => { results := [.lit (.bool false)], args := [d1, d2] }
  | _ => none }
def FnExactDivBigWrongFalsely : Prop := fnExactDivBigRow.holds Try.pinned (OpenSpec.ofChange fnExactDivBigWrong)

/-- 'laws.FnExactTermsOf': WHATEVER THE INPUT: true; the input reads as it did. -/
def fnExactTermsOfSpec : ChangeSpec := { name := "fnExactTermsOf", fn := fun _ => fun
  | [d] => { results := [.lit (.bool true)], args := [d] }
  | _ => none }
def fnExactTermsOfRow : OpenClaim := { program := "ytfmjbpfnhgkhkaa", sum := "5f0dc160b3e1858665b3563a40c1c406fbebdb4f632dd960fe472443c5e4249d", func := "loop.example/g00409/laws.FnExactTermsOf", spec := "fnExactTermsOf", unfollowed := true, recurses := true, apart := false }
def FnExactTermsOfSaid : Prop := fnExactTermsOfRow.holds Try.pinned (OpenSpec.ofChange fnExactTermsOfSpec)

/-- ITS FALSE NEIGHBOUR: 'it returns false'. Refute it at one input. -/
def fnExactTermsOfWrong : ChangeSpec := { name := "fnExactTermsOf", fn := fun _ => fun
  | [d] => { results := [.lit (.bool false)], args := [d] }
  | _ => none }
def FnExactTermsOfWrongFalsely : Prop := fnExactTermsOfRow.holds Try.pinned (OpenSpec.ofChange fnExactTermsOfWrong)

/-- 'laws.FnExactFromTerms': WHATEVER THE INPUT: true; the input reads as it did. -/
def fnExactFromTermsSpec : ChangeSpec := { name := "fnExactFromTerms", fn := fun _ => fun
  | [d] => { results := [.lit (.bool true)], args := [d] }
  | _ => none }
def fnExactFromTermsRow : OpenClaim := { program := "ytfmjbpfnhgkhkaa", sum := "5f0dc160b3e1858665b3563a40c1c406fbebdb4f632dd960fe472443c5e4249d", func := "loop.example/g00409/laws.FnExactFromTerms", spec := "fnExactFromTerms", unfollowed := true, recurses := true, apart := false }
def FnExactFromTermsSaid : Prop := fnExactFromTermsRow.holds Try.pinned (OpenSpec.ofChange fnExactFromTermsSpec)

/-- ITS FALSE NEIGHBOUR: 'it returns false'. Refute it at one input. -/
def fnExactFromTermsWrong : ChangeSpec := { name := "fnExactFromTerms", fn := fun _ => fun
  | [d] => { results := [.lit (.bool false)], args := [d] }
  | _ => none }
def FnExactFromTermsWrongFalsely : Prop := fnExactFromTermsRow.holds Try.pinned (OpenSpec.ofChange fnExactFromTermsWrong)

/-- 'laws.FnExactSimplestIn': WHATEVER THE INPUT: true; the input reads as it did. -/
def fnExactSimplestInSpec : ChangeSpec := { name := "fnExactSimplestIn", fn := fun _ => fun
  | [d1, d2] => { results := [.lit (.bool true)], args := [d1, d2] }
  | _ => none }
def fnExactSimplestInRow : OpenClaim := { program := "ytfmjbpfnhgkhkaa", sum := "5f0dc160b3e1858665b3563a40c1c406fbebdb4f632dd960fe472443c5e4249d", func := "loop.example/g00409/laws.FnExactSimplestIn", spec := "fnExactSimplestIn", unfollowed := true, recurses := true, apart := false }
def FnExactSimplestInSaid : Prop := fnExactSimplestInRow.holds Try.pinned (OpenSpec.ofChange fnExactSimplestInSpec)

/-- ITS FALSE NEIGHBOUR: 'it returns false'. Refute it at one input. -/
def fnExactSimplestInWrong : ChangeSpec := { name := "fnExactSimplestIn", fn := fun _ => fun
  | [d1, d2] => { results := [.lit (.bool false)], args := [d1, d2] }
  | _ => none }
def FnExactSimplestInWrongFalsely : Prop := fnExactSimplestInRow.holds Try.pinned (OpenSpec.ofChange fnExactSimplestInWrong)

/-- 'laws.FnExactInvertSpan': WHATEVER THE INPUT: true; the input reads as it did. -/
def fnExactInvertSpanSpec : ChangeSpec := { name := "fnExactInvertSpan", fn := fun _ => fun
  | [d] => { results := [.lit (.bool true)], args := [d] }
  | _ => none }
def fnExactInvertSpanRow : OpenClaim := { program := "ytfmjbpfnhgkhkaa", sum := "5f0dc160b3e1858665b3563a40c1c406fbebdb4f632dd960fe472443c5e4249d", func := "loop.example/g00409/laws.FnExactInvertSpan", spec := "fnExactInvertSpan", unfollowed := true, recurses := true, apart := false }
def FnExactInvertSpanSaid : Prop := fnExactInvertSpanRow.holds Try.pinned (OpenSpec.ofChange fnExactInvertSpanSpec)

/-- ITS FALSE NEIGHBOUR: 'it returns false'. Refute it at one input. -/
def fnExactInvertSpanWrong : ChangeSpec := { name := "fnExactInvertSpan", fn := fun _ => fun
  | [d] => { results := [.lit (.bool false)], args := [d] }
  | _ => none }
def FnExactInvertSpanWrongFalsely : Prop := fnExactInvertSpanRow.holds Try.pinned (OpenSpec.ofChange fnExactInvertSpanWrong)

/-- 'laws.FnExactSquareSpan': WHATEVER THE INPUT: true; the input reads as it did. -/
def fnExactSquareSpanSpec : ChangeSpec := { name := "fnExactSquareSpan", fn := fun _ => fun
  | [d] => { results := [.lit (.bool true)], args := [d] }
  | _ => none }
def fnExactSquareSpanRow : OpenClaim := { program := "ytfmjbpfnhgkhkaa", sum := "5f0dc160b3e1858665b3563a40c1c406fbebdb4f632dd960fe472443c5e4249d", func := "loop.example/g00409/laws.FnExactSquareSpan", spec := "fnExactSquareSpan", unfollowed := true, recurses := true, apart := false }
def FnExactSquareSpanSaid : Prop := fnExactSquareSpanRow.holds Try.pinned (OpenSpec.ofChange fnExactSquareSpanSpec)

/-- ITS FALSE NEIGHBOUR: 'it returns false'. Refute it at one input. -/
def fnExactSquareSpanWrong : ChangeSpec := { name := "fnExactSquareSpan", fn := fun _ => fun
  | [d] => { results := [.lit (.bool false)], args := [d] }
  | _ => none }
def FnExactSquareSpanWrongFalsely : Prop := fnExactSquareSpanRow.holds Try.pinned (OpenSpec.ofChange fnExactSquareSpanWrong)

/-- 'laws.FnExactRootSpan': WHATEVER THE INPUT: true; the input reads as it did. -/
def fnExactRootSpanSpec : ChangeSpec := { name := "fnExactRootSpan", fn := fun _ => fun
  | [d1, d2] => { results := [.lit (.bool true)], args := [d1, d2] }
  | _ => none }
def fnExactRootSpanRow : OpenClaim := { program := "ytfmjbpfnhgkhkaa", sum := "5f0dc160b3e1858665b3563a40c1c406fbebdb4f632dd960fe472443c5e4249d", func := "loop.example/g00409/laws.FnExactRootSpan", spec := "fnExactRootSpan", apart := false }
def FnExactRootSpanSaid : Prop := fnExactRootSpanRow.holds Try.pinned (OpenSpec.ofChange fnExactRootSpanSpec)

/-- ITS FALSE NEIGHBOUR: 'it returns false'. Refute it at one input. -/
def fnExactRootSpanWrong : ChangeSpec := { name := "fnExactRootSpan", fn := fun _ => fun
  | [d1, d2] => { results := [.lit (.bool false)], args := [d1, d2] }
  | _ => none }
def FnExactRootSpanWrongFalsely : Prop := fnExactRootSpanRow.holds Try.pinned (OpenSpec.ofChange fnExactRootSpanWrong)

/-- 'laws.FnExactGoodPoly': WHATEVER THE INPUT: true; the input reads as it did. -/
def fnExactGoodPolySpec : ChangeSpec := { name := "fnExactGoodPoly", fn := fun _ => fun
  | [d] => { results := [.lit (.bool true)], args := [d] }
  | _ => none }
def fnExactGoodPolyRow : OpenClaim := { program := "ytfmjbpfnhgkhkaa", sum := "5f0dc160b3e1858665b3563a40c1c406fbebdb4f632dd960fe472443c5e4249d", func := "loop.example/g00409/laws.FnExactGoodPoly", spec := "fnExactGoodPoly", unfollowed := true, recurses := true, apart := false }
def FnExactGoodPolySaid : Prop := fnExactGoodPolyRow.holds Try.pinned (OpenSpec.ofChange fnExactGoodPolySpec)

/-- ITS FALSE NEIGHBOUR: 'it returns false'. Refute it at one input. -/
def fnExactGoodPolyWrong : ChangeSpec := { name := "fnExactGoodPoly", fn := fun _ => fun
  | [d] => { results := [.lit (.bool false)], args := [d] }
  | _ => none }
def FnExactGoodPolyWrongFalsely : Prop := fnExactGoodPolyRow.holds Try.pinned (OpenSpec.ofChange fnExactGoodPolyWrong)

/-- 'laws.FnExactEvalPoly': WHATEVER THE INPUT: true; the input reads as it did. -/
def fnExactEvalPolySpec : ChangeSpec := { name := "fnExactEvalPoly", fn := fun _ => fun
  | [d1, d2] => { results := [.lit (.bool true)], args := [d1, d2] }
  | _ => none }
def fnExactEvalPolyRow : OpenClaim := { program := "ytfmjbpfnhgkhkaa", sum := "5f0dc160b3e1858665b3563a40c1c406fbebdb4f632dd960fe472443c5e4249d", func := "loop.example/g00409/laws.FnExactEvalPoly", spec := "fnExactEvalPoly", unfollowed := true, recurses := true, apart := false }
def FnExactEvalPolySaid : Prop := fnExactEvalPolyRow.holds Try.pinned (OpenSpec.ofChange fnExactEvalPolySpec)

/-- ITS FALSE NEIGHBOUR: 'it returns false'. Refute it at one input. -/
def fnExactEvalPolyWrong : ChangeSpec := { name := "fnExactEvalPoly", fn := fun _ => fun
  | [d1, d2] => { results := [.lit (.bool false)], args := [d1, d2] }
  | _ => none }
def FnExactEvalPolyWrongFalsely : Prop := fnExactEvalPolyRow.holds Try.pinned (OpenSpec.ofChange fnExactEvalPolyWrong)

/-- 'laws.FnExactAddPoly': WHATEVER THE INPUT: true; the input reads as it did. -/
def fnExactAddPolySpec : ChangeSpec := { name := "fnExactAddPoly", fn := fun _ => fun
  | [d1, d2] => { results := [.lit (.bool true)], args := [d1, d2] }
  | _ => none }
def fnExactAddPolyRow : OpenClaim := { program := "ytfmjbpfnhgkhkaa", sum := "5f0dc160b3e1858665b3563a40c1c406fbebdb4f632dd960fe472443c5e4249d", func := "loop.example/g00409/laws.FnExactAddPoly", spec := "fnExactAddPoly", unfollowed := true, recurses := true, apart := false }
def FnExactAddPolySaid : Prop := fnExactAddPolyRow.holds Try.pinned (OpenSpec.ofChange fnExactAddPolySpec)

/-- ITS FALSE NEIGHBOUR: 'it returns false'. Refute it at one input. -/
def fnExactAddPolyWrong : ChangeSpec := { name := "fnExactAddPoly", fn := fun _ => fun
  | [d1, d2] => { results := [.lit (.bool false)], args := [d1, d2] }
  | _ => none }
def FnExactAddPolyWrongFalsely : Prop := fnExactAddPolyRow.holds Try.pinned (OpenSpec.ofChange fnExactAddPolyWrong)

/-- 'laws.FnExactMulPoly': WHATEVER THE INPUT: true; the input reads as it did. -/
def fnExactMulPolySpec : ChangeSpec := { name := "fnExactMulPoly", fn := fun _ => fun
  | [d1, d2] => { results := [.lit (.bool true)], args := [d1, d2] }
  | _ => none }
def fnExactMulPolyRow : OpenClaim := { program := "ytfmjbpfnhgkhkaa", sum := "5f0dc160b3e1858665b3563a40c1c406fbebdb4f632dd960fe472443c5e4249d", func := "loop.example/g00409/laws.FnExactMulPoly", spec := "fnExactMulPoly", unfollowed := true, recurses := true, apart := false }
def FnExactMulPolySaid : Prop := fnExactMulPolyRow.holds Try.pinned (OpenSpec.ofChange fnExactMulPolySpec)

/-- ITS FALSE NEIGHBOUR: 'it returns false'. Refute it at one input. -/
def fnExactMulPolyWrong : ChangeSpec := { name := "fnExactMulPoly", fn := fun _ => fun
  | [d1, d2] => { results := [.lit (.bool false)], args := [d1, d2] }
  | _ => none }
def FnExactMulPolyWrongFalsely : Prop := fnExactMulPolyRow.holds Try.pinned (OpenSpec.ofChange fnExactMulPolyWrong)

/-- 'laws.FnExactDerivePoly': WHATEVER THE INPUT: true; the input reads as it did. -/
def fnExactDerivePolySpec : ChangeSpec := { name := "fnExactDerivePoly", fn := fun _ => fun
  | [d] => { results := [.lit (.bool true)], args := [d] }
  | _ => none }
def fnExactDerivePolyRow : OpenClaim := { program := "ytfmjbpfnhgkhkaa", sum := "5f0dc160b3e1858665b3563a40c1c406fbebdb4f632dd960fe472443c5e4249d", func := "loop.example/g00409/laws.FnExactDerivePoly", spec := "fnExactDerivePoly", unfollowed := true, recurses := true, apart := false }
def FnExactDerivePolySaid : Prop := fnExactDerivePolyRow.holds Try.pinned (OpenSpec.ofChange fnExactDerivePolySpec)

/-- ITS FALSE NEIGHBOUR: 'it returns false'. Refute it at one input. -/
def fnExactDerivePolyWrong : ChangeSpec := { name := "fnExactDerivePoly", fn := fun _ => fun
  | [d] => { results := [.lit (.bool false)], args := [d] }
  | _ => none }
def FnExactDerivePolyWrongFalsely : Prop := fnExactDerivePolyRow.holds Try.pinned (OpenSpec.ofChange fnExactDerivePolyWrong)

/-- 'laws.FnExactShiftPoly': WHATEVER THE INPUT: true; the input reads as it did. -/
def fnExactShiftPolySpec : ChangeSpec := { name := "fnExactShiftPoly", fn := fun _ => fun
  | [d1, d2] => { results := [.lit (.bool true)], args := [d1, d2] }
  | _ => none }
def fnExactShiftPolyRow : OpenClaim := { program := "ytfmjbpfnhgkhkaa", sum := "5f0dc160b3e1858665b3563a40c1c406fbebdb4f632dd960fe472443c5e4249d", func := "loop.example/g00409/laws.FnExactShiftPoly", spec := "fnExactShiftPoly", unfollowed := true, recurses := true, apart := false }
def FnExactShiftPolySaid : Prop := fnExactShiftPolyRow.holds Try.pinned (OpenSpec.ofChange fnExactShiftPolySpec)

/-- ITS FALSE NEIGHBOUR: 'it returns false'. Refute it at one input. -/
def fnExactShiftPolyWrong : ChangeSpec := { name := "fnExactShiftPoly", fn := fun _ => fun
  | [d1, d2] => { results := [.lit (.bool false)], args := [d1, d2] }
  | _ => none }
def FnExactShiftPolyWrongFalsely : Prop := fnExactShiftPolyRow.holds Try.pinned (OpenSpec.ofChange fnExactShiftPolyWrong)

/-- 'laws.FnExactSignsIn': WHATEVER THE INPUT: true; the input reads as it did. -/
def fnExactSignsInSpec : ChangeSpec := { name := "fnExactSignsIn", fn := fun _ => fun
  | [d] => { results := [.lit (.bool true)], args := [d] }
  | _ => none }
def fnExactSignsInRow : OpenClaim := { program := "ytfmjbpfnhgkhkaa", sum := "5f0dc160b3e1858665b3563a40c1c406fbebdb4f632dd960fe472443c5e4249d", func := "loop.example/g00409/laws.FnExactSignsIn", spec := "fnExactSignsIn", unfollowed := true, recurses := true, apart := false }
def FnExactSignsInSaid : Prop := fnExactSignsInRow.holds Try.pinned (OpenSpec.ofChange fnExactSignsInSpec)

/-- ITS FALSE NEIGHBOUR: 'it returns false'. Refute it at one input. -/
def fnExactSignsInWrong : ChangeSpec := { name := "fnExactSignsIn", fn := fun _ => fun
  | [d] => { results := [.lit (.bool false)], args := [d] }
  | _ => none }
def FnExactSignsInWrongFalsely : Prop := fnExactSignsInRow.holds Try.pinned (OpenSpec.ofChange fnExactSignsInWrong)

/-- 'laws.FnExactPolyOf': WHATEVER THE INPUT: true; the input reads as it did. -/
def fnExactPolyOfSpec : ChangeSpec := { name := "fnExactPolyOf", fn := fun _ => fun
  | [d] => { results := [.lit (.bool true)], args := [d] }
  | _ => none }
def fnExactPolyOfRow : OpenClaim := { program := "ytfmjbpfnhgkhkaa", sum := "5f0dc160b3e1858665b3563a40c1c406fbebdb4f632dd960fe472443c5e4249d", func := "loop.example/g00409/laws.FnExactPolyOf", spec := "fnExactPolyOf", unfollowed := true, recurses := true, apart := false }
def FnExactPolyOfSaid : Prop := fnExactPolyOfRow.holds Try.pinned (OpenSpec.ofChange fnExactPolyOfSpec)

/-- ITS FALSE NEIGHBOUR: 'it returns false'. Refute it at one input. -/
def fnExactPolyOfWrong : ChangeSpec := { name := "fnExactPolyOf", fn := fun _ => fun
  | [d] => { results := [.lit (.bool false)], args := [d] }
  | _ => none }
def FnExactPolyOfWrongFalsely : Prop := fnExactPolyOfRow.holds Try.pinned (OpenSpec.ofChange fnExactPolyOfWrong)

/- THE SECOND FORM. 'bulk': how many values and letters a reading holds, each counted each time it is reached (what is shared counts as often as it is met; a slice's spare places count too). A statement '..UptoSaid' is the law's where the arguments, and the package variables that the reading takes, are together of bulk at most 1048576: NARROWER than '..Said'. Prove '..Said' where nothing that the law and all that it calls make is longer than what came in: it says more and counts as full. Else prove '..UptoSaid'. A law counts once. -/
mutual
def uptoBulk {H : Type} : DataW H → Nat
  | .lit (.string bytes) => bytes.length + 1
  | .lit _ => 1
  | .nil => 1
  | .ptr d => uptoBulk d + 1
  | .slice elems spare => uptoBulkAll elems + uptoBulkAll spare + 1
  | .agg parts => uptoBulkAll parts + 1
  | .iface _ d => uptoBulk d + 1
  | .map entries => uptoBulkEntries entries + 1
  | .held _ => 1
def uptoBulkAll {H : Type} : List (DataW H) → Nat
  | [] => 0
  | d :: r => uptoBulk d + uptoBulkAll r
def uptoBulkEntries {H : Type} : List (Lit × DataW H) → Nat
  | [] => 0
  | x :: r => uptoBulkEntry x + uptoBulkEntries r
def uptoBulkEntry {H : Type} : Lit × DataW H → Nat
  | (.string bytes, d) => bytes.length + uptoBulk d + 1
  | (_, d) => uptoBulk d + 1
 end
def uptoSmall : (H : Type) → List (DataW H) → Bool := fun _ ds => decide (uptoBulkAll ds ≤ 1048576)
def OpenSpec.upto (s : _root_.Go.ChangeSpec) : _root_.Go.OpenSpec := { _root_.Go.OpenSpec.ofChange s with cond := some uptoSmall }

/-- 'laws.FnExactDivBig', WHERE WHAT IT READS IS OF BULK AT MOST 1048576: true; the input reads as it did. -/
def fnExactDivBigUptoRow : OpenClaim := { program := "ytfmjbpfnhgkhkaa", sum := "5f0dc160b3e1858665b3563a40c1c406fbebdb4f632dd960fe472443c5e4249d", func := "loop.example/g00409/laws.FnExactDivBig", spec := "fnExactDivBig", apart := false, narrowed := true }
def FnExactDivBigUptoSaid : Prop := fnExactDivBigUptoRow.holds Try.pinned (OpenSpec.upto fnExactDivBigSpec)

/-- 'laws.FnExactTermsOf', WHERE WHAT IT READS IS OF BULK AT MOST 1048576: true; the input reads as it did. -/
def fnExactTermsOfUptoRow : OpenClaim := { program := "ytfmjbpfnhgkhkaa", sum := "5f0dc160b3e1858665b3563a40c1c406fbebdb4f632dd960fe472443c5e4249d", func := "loop.example/g00409/laws.FnExactTermsOf", spec := "fnExactTermsOf", unfollowed := true, recurses := true, apart := false, narrowed := true }
def FnExactTermsOfUptoSaid : Prop := fnExactTermsOfUptoRow.holds Try.pinned (OpenSpec.upto fnExactTermsOfSpec)

/-- 'laws.FnExactFromTerms', WHERE WHAT IT READS IS OF BULK AT MOST 1048576: true; the input reads as it did. -/
def fnExactFromTermsUptoRow : OpenClaim := { program := "ytfmjbpfnhgkhkaa", sum := "5f0dc160b3e1858665b3563a40c1c406fbebdb4f632dd960fe472443c5e4249d", func := "loop.example/g00409/laws.FnExactFromTerms", spec := "fnExactFromTerms", unfollowed := true, recurses := true, apart := false, narrowed := true }
def FnExactFromTermsUptoSaid : Prop := fnExactFromTermsUptoRow.holds Try.pinned (OpenSpec.upto fnExactFromTermsSpec)

/-- 'laws.FnExactSimplestIn', WHERE WHAT IT READS IS OF BULK AT MOST 1048576: true; the input reads as it did. -/
def fnExactSimplestInUptoRow : OpenClaim := { program := "ytfmjbpfnhgkhkaa", sum := "5f0dc160b3e1858665b3563a40c1c406fbebdb4f632dd960fe472443c5e4249d", func := "loop.example/g00409/laws.FnExactSimplestIn", spec := "fnExactSimplestIn", unfollowed := true, recurses := true, apart := false, narrowed := true }
def FnExactSimplestInUptoSaid : Prop := fnExactSimplestInUptoRow.holds Try.pinned (OpenSpec.upto fnExactSimplestInSpec)

/-- 'laws.FnExactInvertSpan', WHERE WHAT IT READS IS OF BULK AT MOST 1048576: true; the input reads as it did. -/
def fnExactInvertSpanUptoRow : OpenClaim := { program := "ytfmjbpfnhgkhkaa", sum := "5f0dc160b3e1858665b3563a40c1c406fbebdb4f632dd960fe472443c5e4249d", func := "loop.example/g00409/laws.FnExactInvertSpan", spec := "fnExactInvertSpan", unfollowed := true, recurses := true, apart := false, narrowed := true }
def FnExactInvertSpanUptoSaid : Prop := fnExactInvertSpanUptoRow.holds Try.pinned (OpenSpec.upto fnExactInvertSpanSpec)

/-- 'laws.FnExactSquareSpan', WHERE WHAT IT READS IS OF BULK AT MOST 1048576: true; the input reads as it did. -/
def fnExactSquareSpanUptoRow : OpenClaim := { program := "ytfmjbpfnhgkhkaa", sum := "5f0dc160b3e1858665b3563a40c1c406fbebdb4f632dd960fe472443c5e4249d", func := "loop.example/g00409/laws.FnExactSquareSpan", spec := "fnExactSquareSpan", unfollowed := true, recurses := true, apart := false, narrowed := true }
def FnExactSquareSpanUptoSaid : Prop := fnExactSquareSpanUptoRow.holds Try.pinned (OpenSpec.upto fnExactSquareSpanSpec)

/-- 'laws.FnExactRootSpan', WHERE WHAT IT READS IS OF BULK AT MOST 1048576: true; the input reads as it did. -/
def fnExactRootSpanUptoRow : OpenClaim := { program := "ytfmjbpfnhgkhkaa", sum := "5f0dc160b3e1858665b3563a40c1c406fbebdb4f632dd960fe472443c5e4249d", func := "loop.example/g00409/laws.FnExactRootSpan", spec := "fnExactRootSpan", apart := false, narrowed := true }
def FnExactRootSpanUptoSaid : Prop := fnExactRootSpanUptoRow.holds Try.pinned (OpenSpec.upto fnExactRootSpanSpec)

/-- 'laws.FnExactGoodPoly', WHERE WHAT IT READS IS OF BULK AT MOST 1048576: true; the input reads as it did. -/
def fnExactGoodPolyUptoRow : OpenClaim := { program := "ytfmjbpfnhgkhkaa", sum := "5f0dc160b3e1858665b3563a40c1c406fbebdb4f632dd960fe472443c5e4249d", func := "loop.example/g00409/laws.FnExactGoodPoly", spec := "fnExactGoodPoly", unfollowed := true, recurses := true, apart := false, narrowed := true }
def FnExactGoodPolyUptoSaid : Prop := fnExactGoodPolyUptoRow.holds Try.pinned (OpenSpec.upto fnExactGoodPolySpec)

/-- 'laws.FnExactEvalPoly', WHERE WHAT IT READS IS OF BULK AT MOST 1048576: true; the input reads as it did. -/
def fnExactEvalPolyUptoRow : OpenClaim := { program := "ytfmjbpfnhgkhkaa", sum := "5f0dc160b3e1858665b3563a40c1c406fbebdb4f632dd960fe472443c5e4249d", func := "loop.example/g00409/laws.FnExactEvalPoly", spec := "fnExactEvalPoly", unfollowed := true, recurses := true, apart := false, narrowed := true }
def FnExactEvalPolyUptoSaid : Prop := fnExactEvalPolyUptoRow.holds Try.pinned (OpenSpec.upto fnExactEvalPolySpec)

/-- 'laws.FnExactAddPoly', WHERE WHAT IT READS IS OF BULK AT MOST 1048576: true; the input reads as it did. -/
def fnExactAddPolyUptoRow : OpenClaim := { program := "ytfmjbpfnhgkhkaa", sum := "5f0dc160b3e1858665b3563a40c1c406fbebdb4f632dd960fe472443c5e4249d", func := "loop.example/g00409/laws.FnExactAddPoly", spec := "fnExactAddPoly", unfollowed := true, recurses := true, apart := false, narrowed := true }
def FnExactAddPolyUptoSaid : Prop := fnExactAddPolyUptoRow.holds Try.pinned (OpenSpec.upto fnExactAddPolySpec)

/-- 'laws.FnExactMulPoly', WHERE WHAT IT READS IS OF BULK AT MOST 1048576: true; the input reads as it did. -/
def fnExactMulPolyUptoRow : OpenClaim := { program := "ytfmjbpfnhgkhkaa", sum := "5f0dc160b3e1858665b3563a40c1c406fbebdb4f632dd960fe472443c5e4249d", func := "loop.example/g00409/laws.FnExactMulPoly", spec := "fnExactMulPoly", unfollowed := true, recurses := true, apart := false, narrowed := true }
def FnExactMulPolyUptoSaid : Prop := fnExactMulPolyUptoRow.holds Try.pinned (OpenSpec.upto fnExactMulPolySpec)

/-- 'laws.FnExactDerivePoly', WHERE WHAT IT READS IS OF BULK AT MOST 1048576: true; the input reads as it did. -/
def fnExactDerivePolyUptoRow : OpenClaim := { program := "ytfmjbpfnhgkhkaa", sum := "5f0dc160b3e1858665b3563a40c1c406fbebdb4f632dd960fe472443c5e4249d", func := "loop.example/g00409/laws.FnExactDerivePoly", spec := "fnExactDerivePoly", unfollowed := true, recurses := true, apart := false, narrowed := true }
def FnExactDerivePolyUptoSaid : Prop := fnExactDerivePolyUptoRow.holds Try.pinned (OpenSpec.upto fnExactDerivePolySpec)

/-- 'laws.FnExactShiftPoly', WHERE WHAT IT READS IS OF BULK AT MOST 1048576: true; the input reads as it did. -/
def fnExactShiftPolyUptoRow : OpenClaim := { program := "ytfmjbpfnhgkhkaa", sum := "5f0dc160b3e1858665b3563a40c1c406fbebdb4f632dd960fe472443c5e4249d", func := "loop.example/g00409/laws.FnExactShiftPoly", spec := "fnExactShiftPoly", unfollowed := true, recurses := true, apart := false, narrowed := true }
def FnExactShiftPolyUptoSaid : Prop := fnExactShiftPolyUptoRow.holds Try.pinned (OpenSpec.upto fnExactShiftPolySpec)

/-- 'laws.FnExactSignsIn', WHERE WHAT IT READS IS OF BULK AT MOST 1048576: true; the input reads as it did. -/
def fnExactSignsInUptoRow : OpenClaim := { program := "ytfmjbpfnhgkhkaa", sum := "5f0dc160b3e1858665b3563a40c1c406fbebdb4f632dd960fe472443c5e4249d", func := "loop.example/g00409/laws.FnExactSignsIn", spec := "fnExactSignsIn", unfollowed := true, recurses := true, apart := false, narrowed := true }
def FnExactSignsInUptoSaid : Prop := fnExactSignsInUptoRow.holds Try.pinned (OpenSpec.upto fnExactSignsInSpec)

/-- 'laws.FnExactPolyOf', WHERE WHAT IT READS IS OF BULK AT MOST 1048576: true; the input reads as it did. -/
def fnExactPolyOfUptoRow : OpenClaim := { program := "ytfmjbpfnhgkhkaa", sum := "5f0dc160b3e1858665b3563a40c1c406fbebdb4f632dd960fe472443c5e4249d", func := "loop.example/g00409/laws.FnExactPolyOf", spec := "fnExactPolyOf", unfollowed := true, recurses := true, apart := false, narrowed := true }
def FnExactPolyOfUptoSaid : Prop := fnExactPolyOfUptoRow.holds Try.pinned (OpenSpec.upto fnExactPolyOfSpec)

end Rows
end Go.Proofs.Ytfmjbpfnhgkhkaa
