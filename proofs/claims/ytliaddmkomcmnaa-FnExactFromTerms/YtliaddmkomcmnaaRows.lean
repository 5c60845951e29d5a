/-
  No cell of these rows narrows 'for every input' (looked for: loops, veiled, ifaces, maps, wideKeys, modest, calm, conditions, laid).
  DERIVED. THE GIVEN ROWS OF THIS SEAT. 8 by the template 'for every input the law returns true; each argument reads behind the call as it read before'; 0 by the template 'total and deterministic' (their statements: YtliaddmkomcmnaaTotals.lean).
  GIVEN WITH THE SEED: the statements are not yours to turn. If you find one false, say at which input.
  Laid BY PROGRAM, IN A SANDBOX (cutbox-rows.mjs): the forced cells as the released guide's own fill.sh prints them over the translation 5c0228f59f6aa22a… (all of the seat's roots in one cut). By AI agents, Wed Nov 11 2026. No macro, syntax, notation, axiom, sorry.
-/
import Derived.Test.YtliaddmkomcmnaaChecked
import GoSem.Claim
import GoSem.ClaimJoined
import GoSem.ClaimMapViews
import Derived.JoinedTies
import Derived.KernelRfl
namespace Go.Proofs.Ytliaddmkomcmnaa
/- THE CELL 'sum', in the pinned program and in every row, IS THE sha256 OF THE DUMP (.gsa) THAT YtliaddmkomcmnaaProg.lean LOADS. Nothing in Lean hashes anything: it is a label: what it is worth is what the hold of that sum in a sandbox is worth. -/
noncomputable def Try.pinned : Pinned := { name := "ytliaddmkomcmnaa", sum := "5c0228f59f6aa22a4c6493f9dea9781384b1d873606d7a0de012d7752e26752f", checked := Try.checked }
namespace Rows
def none {H : Type} : Left H := { results := [], args := [] }

/-- 'laws.FnExactTermsOf': WHATEVER THE INPUT: true; the input reads as it did. -/
def fnExactTermsOfSpec : ChangeSpec := { name := "fnExactTermsOf", fn := fun _ => fun
  | [d] => { results := [.lit (.bool true)], args := [d] }
  | _ => none }
def fnExactTermsOfRow : OpenClaim := { program := "ytliaddmkomcmnaa", sum := "5c0228f59f6aa22a4c6493f9dea9781384b1d873606d7a0de012d7752e26752f", func := "loop.example/g00409/laws.FnExactTermsOf", spec := "fnExactTermsOf", unfollowed := true, recurses := true, apart := false }
def FnExactTermsOfSaid : Prop := fnExactTermsOfRow.holds Try.pinned (OpenSpec.ofChange fnExactTermsOfSpec)

/-- ITS FALSE NEIGHBOUR: 'it returns false'. Refute it at one input. -/
def fnExactTermsOfWrong : ChangeSpec := { name := "fnExactTermsOf", fn := fun _ => fun
  | [d] => { results := [.lit (.bool false)], args := [d] }
  | _ => none }
def FnExactTermsOfWrongFalsely : Prop := fnExactTermsOfRow.holds Try.pinned (OpenSpec.ofChange fnExactTermsOfWrong)

/-- 'laws.FnExactFromTerms': WHATEVER THE INPUT: true; the input reads as it did. -/
def fnExactFromTermsSpec : ChangeSpec := { name := "fnExactFromTerms", fn := fun _ => fun
  | [d] => { results := [.lit (.bool true)], args := [d] }
  | _ => none }
def fnExactFromTermsRow : OpenClaim := { program := "ytliaddmkomcmnaa", sum := "5c0228f59f6aa22a4c6493f9dea9781384b1d873606d7a0de012d7752e26752f", func := "loop.example/g00409/laws.FnExactFromTerms", spec := "fnExactFromTerms", unfollowed := true, recurses := true, apart := false }
def FnExactFromTermsSaid : Prop := fnExactFromTermsRow.holds Try.pinned (OpenSpec.ofChange fnExactFromTermsSpec)

/-- ITS FALSE NEIGHBOUR: 'it returns false'. Refute it at one input. -/
def fnExactFromTermsWrong : ChangeSpec := { name := "fnExactFromTerms", fn := fun _ => fun
  | [d] => { results := [.lit (.bool false)], args := [d] }
  | _ => none }
def FnExactFromTermsWrongFalsely : Prop := fnExactFromTermsRow.holds Try.pinned (OpenSpec.ofChange fnExactFromTermsWrong)

/-- 'laws.FnExactSquareSpan': WHATEVER THE INPUT: true; the input reads as it did. -/
def fnExactSquareSpanSpec : ChangeSpec := { name := "fnExactSquareSpan", fn := fun _ => fun
  | [d] => { results := [.lit (.bool true)], args := [d] }
  | _ => none }
def fnExactSquareSpanRow : OpenClaim := { program := "ytliaddmkomcmnaa", sum := "5c0228f59f6aa22a4c6493f9dea9781384b1d873606d7a0de012d7752e26752f", func := "loop.example/g00409/laws.FnExactSquareSpan", spec := "fnExactSquareSpan", unfollowed := true, recurses := true, apart := false }
def FnExactSquareSpanSaid : Prop := fnExactSquareSpanRow.holds Try.pinned (OpenSpec.ofChange fnExactSquareSpanSpec)

/-- ITS FALSE NEIGHBOUR: 'it returns false'. Refute it at one input. -/
def fnExactSquareSpanWrong : ChangeSpec := { name := "fnExactSquareSpan", fn := fun _ => fun
  | [d] => { results := [.lit (.bool false)], args := [d] }
  | _ => none }
def FnExactSquareSpanWrongFalsely : Prop := fnExactSquareSpanRow.holds Try.pinned (OpenSpec.ofChange fnExactSquareSpanWrong)

/-- 'laws.FnExactEvalPoly': WHATEVER THE INPUT: true; the input reads as it did. -/
def fnExactEvalPolySpec : ChangeSpec := { name := "fnExactEvalPoly", fn := fun _ => fun
  | [d1, d2] => { results := [.lit (.bool true)], args := [d1, d2] }
  | _ => none }
def fnExactEvalPolyRow : OpenClaim := { program := "ytliaddmkomcmnaa", sum := "5c0228f59f6aa22a4c6493f9dea9781384b1d873606d7a0de012d7752e26752f", func := "loop.example/g00409/laws.FnExactEvalPoly", spec := "fnExactEvalPoly", unfollowed := true, recurses := true, apart := false }
def FnExactEvalPolySaid : Prop := fnExactEvalPolyRow.holds Try.pinned (OpenSpec.ofChange fnExactEvalPolySpec)

/-- ITS FALSE NEIGHBOUR: 'it returns false'. Refute it at one input. -/
def fnExactEvalPolyWrong : ChangeSpec := { name := "fnExactEvalPoly", fn := fun _ => fun
  | [d1, d2] => { results := [.lit (.bool false)], args := [d1, d2] }
  | _ => none }
def FnExactEvalPolyWrongFalsely : Prop := fnExactEvalPolyRow.holds Try.pinned (OpenSpec.ofChange fnExactEvalPolyWrong)

/-- 'laws.FnExactMulPoly': WHATEVER THE INPUT: true; the input reads as it did. -/
def fnExactMulPolySpec : ChangeSpec := { name := "fnExactMulPoly", fn := fun _ => fun
  | [d1, d2] => { results := [.lit (.bool true)], args := [d1, d2] }
  | _ => none }
def fnExactMulPolyRow : OpenClaim := { program := "ytliaddmkomcmnaa", sum := "5c0228f59f6aa22a4c6493f9dea9781384b1d873606d7a0de012d7752e26752f", func := "loop.example/g00409/laws.FnExactMulPoly", spec := "fnExactMulPoly", unfollowed := true, recurses := true, apart := false }
def FnExactMulPolySaid : Prop := fnExactMulPolyRow.holds Try.pinned (OpenSpec.ofChange fnExactMulPolySpec)

/-- ITS FALSE NEIGHBOUR: 'it returns false'. Refute it at one input. -/
def fnExactMulPolyWrong : ChangeSpec := { name := "fnExactMulPoly", fn := fun _ => fun
  | [d1, d2] => { results := [.lit (.bool false)], args := [d1, d2] }
  | _ => none }
def FnExactMulPolyWrongFalsely : Prop := fnExactMulPolyRow.holds Try.pinned (OpenSpec.ofChange fnExactMulPolyWrong)

/-- 'laws.FnExactSignsIn': WHATEVER THE INPUT: true; the input reads as it did. -/
def fnExactSignsInSpec : ChangeSpec := { name := "fnExactSignsIn", fn := fun _ => fun
  | [d] => { results := [.lit (.bool true)], args := [d] }
  | _ => none }
def fnExactSignsInRow : OpenClaim := { program := "ytliaddmkomcmnaa", sum := "5c0228f59f6aa22a4c6493f9dea9781384b1d873606d7a0de012d7752e26752f", func := "loop.example/g00409/laws.FnExactSignsIn", spec := "fnExactSignsIn", unfollowed := true, recurses := true, apart := false }
def FnExactSignsInSaid : Prop := fnExactSignsInRow.holds Try.pinned (OpenSpec.ofChange fnExactSignsInSpec)

/-- ITS FALSE NEIGHBOUR: 'it returns false'. Refute it at one input. -/
def fnExactSignsInWrong : ChangeSpec := { name := "fnExactSignsIn", fn := fun _ => fun
  | [d] => { results := [.lit (.bool false)], args := [d] }
  | _ => none }
def FnExactSignsInWrongFalsely : Prop := fnExactSignsInRow.holds Try.pinned (OpenSpec.ofChange fnExactSignsInWrong)

/-- 'laws.FnExactRootsPoly': WHATEVER THE INPUT: true; the input reads as it did. -/
def fnExactRootsPolySpec : ChangeSpec := { name := "fnExactRootsPoly", fn := fun _ => fun
  | [d] => { results := [.lit (.bool true)], args := [d] }
  | _ => none }
def fnExactRootsPolyRow : OpenClaim := { program := "ytliaddmkomcmnaa", sum := "5c0228f59f6aa22a4c6493f9dea9781384b1d873606d7a0de012d7752e26752f", func := "loop.example/g00409/laws.FnExactRootsPoly", spec := "fnExactRootsPoly", unfollowed := true, recurses := true, apart := false }
def FnExactRootsPolySaid : Prop := fnExactRootsPolyRow.holds Try.pinned (OpenSpec.ofChange fnExactRootsPolySpec)

/-- ITS FALSE NEIGHBOUR: 'it returns false'. Refute it at one input. -/
def fnExactRootsPolyWrong : ChangeSpec := { name := "fnExactRootsPoly", fn := fun _ => fun
  | [d] => { results := [.lit (.bool false)], args := [d] }
  | _ => none }
def FnExactRootsPolyWrongFalsely : Prop := fnExactRootsPolyRow.holds Try.pinned (OpenSpec.ofChange fnExactRootsPolyWrong)

/-- 'laws.FnExactHasRoot': WHATEVER THE INPUT: true; the input reads as it did. -/
def fnExactHasRootSpec : ChangeSpec := { name := "fnExactHasRoot", fn := fun _ => fun
  | [d1, d2] => { results := [.lit (.bool true)], args := [d1, d2] }
  | _ => none }
def fnExactHasRootRow : OpenClaim := { program := "ytliaddmkomcmnaa", sum := "5c0228f59f6aa22a4c6493f9dea9781384b1d873606d7a0de012d7752e26752f", func := "loop.example/g00409/laws.FnExactHasRoot", spec := "fnExactHasRoot", unfollowed := true, recurses := true, apart := false }
def FnExactHasRootSaid : Prop := fnExactHasRootRow.holds Try.pinned (OpenSpec.ofChange fnExactHasRootSpec)

/-- ITS FALSE NEIGHBOUR: 'it returns false'. Refute it at one input. -/
def fnExactHasRootWrong : ChangeSpec := { name := "fnExactHasRoot", fn := fun _ => fun
  | [d1, d2] => { results := [.lit (.bool false)], args := [d1, d2] }
  | _ => none }
def FnExactHasRootWrongFalsely : Prop := fnExactHasRootRow.holds Try.pinned (OpenSpec.ofChange fnExactHasRootWrong)

/- THE SECOND FORM. 'bulk': how many values and letters a reading holds, each counted each time it is reached (what is shared counts as often as it is met; a slice's spare places count too). A statement '..UptoSaid' is the law's where the arguments, and the package variables that the reading takes, are together of bulk at most 1048576: NARROWER than '..Said'. Prove '..Said' where nothing that the law and all that it calls make is longer than what came in: it says more and counts as full. Else prove '..UptoSaid'. A law counts once. -/
mutual
def uptoBulk {H : Type} : DataW H → Nat
  | .lit (.string bytes) => bytes.length + 1
  | .lit _ => 1
  | .nil => 1
  | .ptr d => uptoBulk d + 1
  | .slice elems spare => uptoBulkAll elems + uptoBulkAll spare + 1
  | .agg parts => uptoBulkAll parts + 1
  | .iface _ d => uptoBulk d + 1
  | .map entries => uptoBulkEntries entries + 1
  | .held _ => 1
def uptoBulkAll {H : Type} : List (DataW H) → Nat
  | [] => 0
  | d :: r => uptoBulk d + uptoBulkAll r
def uptoBulkEntries {H : Type} : List (Lit × DataW H) → Nat
  | [] => 0
  | x :: r => uptoBulkEntry x + uptoBulkEntries r
def uptoBulkEntry {H : Type} : Lit × DataW H → Nat
  | (.string bytes, d) => bytes.length + uptoBulk d + 1
  | (_, d) => uptoBulk d + 1
 end
def uptoSmall : (H : Type) → List (DataW H) → Bool := fun _ ds => decide (uptoBulkAll ds ≤ 1048576)
def OpenSpec.upto (s : _root_.Go.ChangeSpec) : _root_.Go.OpenSpec := { _root_.Go.OpenSpec.ofChange s with cond := some uptoSmall }

/-- 'laws.FnExactTermsOf', WHERE WHAT IT READS IS OF BULK AT MOST 1048576: true; the input reads as it did. -/
def fnExactTermsOfUptoRow : OpenClaim := { program := "ytliaddmkomcmnaa", sum := "5c0228f59f6aa22a4c6493f9dea9781384b1d873606d7a0de012d7752e26752f", func := "loop.example/g00409/laws.FnExactTermsOf", spec := "fnExactTermsOf", unfollowed := true, recurses := true, apart := false, narrowed := true }
def FnExactTermsOfUptoSaid : Prop := fnExactTermsOfUptoRow.holds Try.pinned (OpenSpec.upto fnExactTermsOfSpec)

/-- 'laws.FnExactFromTerms', WHERE WHAT IT READS IS OF BULK AT MOST 1048576: true; the input reads as it did. -/
def fnExactFromTermsUptoRow : OpenClaim := { program := "ytliaddmkomcmnaa", sum := "5c0228f59f6aa22a4c6493f9dea9781384b1d873606d7a0de012d7752e26752f", func := "loop.example/g00409/laws.FnExactFromTerms", spec := "fnExactFromTerms", unfollowed := true, recurses := true, apart := false, narrowed := true }
def FnExactFromTermsUptoSaid : Prop := fnExactFromTermsUptoRow.holds Try.pinned (OpenSpec.upto fnExactFromTermsSpec)

/-- 'laws.FnExactSquareSpan', WHERE WHAT IT READS IS OF BULK AT MOST 1048576: true; the input reads as it did. -/
def fnExactSquareSpanUptoRow : OpenClaim := { program := "ytliaddmkomcmnaa", sum := "5c0228f59f6aa22a4c6493f9dea9781384b1d873606d7a0de012d7752e26752f", func := "loop.example/g00409/laws.FnExactSquareSpan", spec := "fnExactSquareSpan", unfollowed := true, recurses := true, apart := false, narrowed := true }
def FnExactSquareSpanUptoSaid : Prop := fnExactSquareSpanUptoRow.holds Try.pinned (OpenSpec.upto fnExactSquareSpanSpec)

/-- 'laws.FnExactEvalPoly', WHERE WHAT IT READS IS OF BULK AT MOST 1048576: true; the input reads as it did. -/
def fnExactEvalPolyUptoRow : OpenClaim := { program := "ytliaddmkomcmnaa", sum := "5c0228f59f6aa22a4c6493f9dea9781384b1d873606d7a0de012d7752e26752f", func := "loop.example/g00409/laws.FnExactEvalPoly", spec := "fnExactEvalPoly", unfollowed := true, recurses := true, apart := false, narrowed := true }
def FnExactEvalPolyUptoSaid : Prop := fnExactEvalPolyUptoRow.holds Try.pinned (OpenSpec.upto fnExactEvalPolySpec)

/-- 'laws.FnExactMulPoly', WHERE WHAT IT READS IS OF BULK AT MOST 1048576: true; the input reads as it did. -/
def fnExactMulPolyUptoRow : OpenClaim := { program := "ytliaddmkomcmnaa", sum := "5c0228f59f6aa22a4c6493f9dea9781384b1d873606d7a0de012d7752e26752f", func := "loop.example/g00409/laws.FnExactMulPoly", spec := "fnExactMulPoly", unfollowed := true, recurses := true, apart := false, narrowed := true }
def FnExactMulPolyUptoSaid : Prop := fnExactMulPolyUptoRow.holds Try.pinned (OpenSpec.upto fnExactMulPolySpec)

/-- 'laws.FnExactSignsIn', WHERE WHAT IT READS IS OF BULK AT MOST 1048576: true; the input reads as it did. -/
def fnExactSignsInUptoRow : OpenClaim := { program := "ytliaddmkomcmnaa", sum := "5c0228f59f6aa22a4c6493f9dea9781384b1d873606d7a0de012d7752e26752f", func := "loop.example/g00409/laws.FnExactSignsIn", spec := "fnExactSignsIn", unfollowed := true, recurses := true, apart := false, narrowed := true }
def FnExactSignsInUptoSaid : Prop := fnExactSignsInUptoRow.holds Try.pinned (OpenSpec.upto fnExactSignsInSpec)

/-- 'laws.FnExactRootsPoly', WHERE WHAT IT READS IS OF BULK AT MOST 1048576: true; the input reads as it did. -/
def fnExactRootsPolyUptoRow : OpenClaim := { program := "ytliaddmkomcmnaa", sum := "5c0228f59f6aa22a4c6493f9dea9781384b1d873606d7a0de012d7752e26752f", func := "loop.example/g00409/laws.FnExactRootsPoly", spec := "fnExactRootsPoly", unfollowed := true, recurses := true, apart := false, narrowed := true }
def FnExactRootsPolyUptoSaid : Prop := fnExactRootsPolyUptoRow.holds Try.pinned (OpenSpec.upto fnExactRootsPolySpec)

/-- 'laws.FnExactHasRoot', WHERE WHAT IT READS IS OF BULK AT MOST 1048576: true; the input reads as it did. -/
def fnExactHasRootUptoRow : OpenClaim := { program := "ytliaddmkomcmnaa", sum := "5c0228f59f6aa22a4c6493f9dea9781384b1d873606d7a0de012d7752e26752f", func := "loop.example/g00409/laws.FnExactHasRoot", spec := "fnExactHasRoot", unfollowed := true, recurses := true, apart := false, narrowed := true }
def FnExactHasRootUptoSaid : Prop := fnExactHasRootUptoRow.holds Try.pinned (OpenSpec.upto fnExactHasRootSpec)

end Rows
end Go.Proofs.Ytliaddmkomcmnaa
