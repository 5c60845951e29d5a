/-
  No cell of these rows narrows 'for every input' (looked for: loops, veiled, ifaces, maps, wideKeys, modest, calm, conditions, laid).
  DERIVED. THE GIVEN ROWS OF THIS SEAT. 9 by the template 'for every input the law returns true; each argument reads behind the call as it read before'; 0 by the template 'total and deterministic' (their statements: YtblhjeepelgdaaaTotals.lean).
  GIVEN WITH THE SEED: the statements are not yours to turn. If you find one false, say at which input.
  Laid BY PROGRAM, IN A SANDBOX (cutbox-rows.mjs): the forced cells as the released guide's own fill.sh prints them over the translation ded4dd24efeafabd… (all of the seat's roots in one cut). By AI agents, Wed Nov 11 2026. No macro, syntax, notation, axiom, sorry.
-/
import Derived.Test.YtblhjeepelgdaaaChecked
import GoSem.Claim
import GoSem.ClaimJoined
import GoSem.ClaimMapViews
import Derived.JoinedTies
import Derived.KernelRfl
namespace Go.Proofs.Ytblhjeepelgdaaa
/- THE CELL 'sum', in the pinned program and in every row, IS THE sha256 OF THE DUMP (.gsa) THAT YtblhjeepelgdaaaProg.lean LOADS. Nothing in Lean hashes anything: it is a label: what it is worth is what the hold of that sum in a sandbox is worth. -/
noncomputable def Try.pinned : Pinned := { name := "ytblhjeepelgdaaa", sum := "ded4dd24efeafabd20a207d9c7bfb3f02e06887bb17ee337cc168c0a9150b3f2", checked := Try.checked }
namespace Rows
def none {H : Type} : Left H := { results := [], args := [] }

/-- 'laws.FnColours': WHATEVER THE INPUT: true; the input reads as it did. -/
def fnColoursSpec : ChangeSpec := { name := "fnColours", fn := fun _ => fun
  | [d1, d2] => { results := [.lit (.bool true)], args := [d1, d2] }
  | _ => none }
def fnColoursRow : OpenClaim := { program := "ytblhjeepelgdaaa", sum := "ded4dd24efeafabd20a207d9c7bfb3f02e06887bb17ee337cc168c0a9150b3f2", func := "loop.example/g00409/laws.FnColours", spec := "fnColours", recurses := true, plainKeys := false, apart := false }
def FnColoursSaid : Prop := fnColoursRow.holds Try.pinned (OpenSpec.ofChange fnColoursSpec)

/-- ITS FALSE NEIGHBOUR: 'it returns false'. Refute it at one input. -/
def fnColoursWrong : ChangeSpec := { name := "fnColours", fn := fun _ => fun
  | [d1, d2] => { results := [.lit (.bool false)], args := [d1, d2] }
  | _ => none }
def FnColoursWrongFalsely : Prop := fnColoursRow.holds Try.pinned (OpenSpec.ofChange fnColoursWrong)

/-- 'laws.FnExactEarsOf': WHATEVER THE INPUT: true; the input reads as it did. -/
def fnExactEarsOfSpec : ChangeSpec := { name := "fnExactEarsOf", fn := fun _ => fun
  | [d] => { results := [.lit (.bool true)], args := [d] }
  | _ => none }
def fnExactEarsOfRow : OpenClaim := { program := "ytblhjeepelgdaaa", sum := "ded4dd24efeafabd20a207d9c7bfb3f02e06887bb17ee337cc168c0a9150b3f2", func := "loop.example/g00409/laws.FnExactEarsOf", spec := "fnExactEarsOf", recurses := true, plainKeys := false, apart := false }
def FnExactEarsOfSaid : Prop := fnExactEarsOfRow.holds Try.pinned (OpenSpec.ofChange fnExactEarsOfSpec)

/-- ITS FALSE NEIGHBOUR: 'it returns false'. Refute it at one input. -/
def fnExactEarsOfWrong : ChangeSpec := { name := "fnExactEarsOf", fn := fun _ => fun
  | [d] => { results := [.lit (.bool false)], args := [d] }
  | _ => none }
def FnExactEarsOfWrongFalsely : Prop := fnExactEarsOfRow.holds Try.pinned (OpenSpec.ofChange fnExactEarsOfWrong)

/-- 'laws.FnExactTriangulate': WHATEVER THE INPUT: true; the input reads as it did. -/
def fnExactTriangulateSpec : ChangeSpec := { name := "fnExactTriangulate", fn := fun _ => fun
  | [d] => { results := [.lit (.bool true)], args := [d] }
  | _ => none }
def fnExactTriangulateRow : OpenClaim := { program := "ytblhjeepelgdaaa", sum := "ded4dd24efeafabd20a207d9c7bfb3f02e06887bb17ee337cc168c0a9150b3f2", func := "loop.example/g00409/laws.FnExactTriangulate", spec := "fnExactTriangulate", recurses := true, plainKeys := false, apart := false }
def FnExactTriangulateSaid : Prop := fnExactTriangulateRow.holds Try.pinned (OpenSpec.ofChange fnExactTriangulateSpec)

/-- ITS FALSE NEIGHBOUR: 'it returns false'. Refute it at one input. -/
def fnExactTriangulateWrong : ChangeSpec := { name := "fnExactTriangulate", fn := fun _ => fun
  | [d] => { results := [.lit (.bool false)], args := [d] }
  | _ => none }
def FnExactTriangulateWrongFalsely : Prop := fnExactTriangulateRow.holds Try.pinned (OpenSpec.ofChange fnExactTriangulateWrong)

/-- 'laws.FnExactIsTriangulation': WHATEVER THE INPUT: true; the input reads as it did. -/
def fnExactIsTriangulationSpec : ChangeSpec := { name := "fnExactIsTriangulation", fn := fun _ => fun
  | [d1, d2] => { results := [.lit (.bool true)], args := [d1, d2] }
  | _ => none }
def fnExactIsTriangulationRow : OpenClaim := { program := "ytblhjeepelgdaaa", sum := "ded4dd24efeafabd20a207d9c7bfb3f02e06887bb17ee337cc168c0a9150b3f2", func := "loop.example/g00409/laws.FnExactIsTriangulation", spec := "fnExactIsTriangulation", plainKeys := false, apart := false }
def FnExactIsTriangulationSaid : Prop := fnExactIsTriangulationRow.holds Try.pinned (OpenSpec.ofChange fnExactIsTriangulationSpec)

/-- ITS FALSE NEIGHBOUR: 'it returns false'. Refute it at one input. -/
def fnExactIsTriangulationWrong : ChangeSpec := { name := "fnExactIsTriangulation", fn := fun _ => fun
  | [d1, d2] => { results := [.lit (.bool false)], args := [d1, d2] }
  | _ => none }
def FnExactIsTriangulationWrongFalsely : Prop := fnExactIsTriangulationRow.holds Try.pinned (OpenSpec.ofChange fnExactIsTriangulationWrong)

/-- 'laws.FnExactColourThree': WHATEVER THE INPUT: true; the input reads as it did. -/
def fnExactColourThreeSpec : ChangeSpec := { name := "fnExactColourThree", fn := fun _ => fun
  | [d] => { results := [.lit (.bool true)], args := [d] }
  | _ => none }
def fnExactColourThreeRow : OpenClaim := { program := "ytblhjeepelgdaaa", sum := "ded4dd24efeafabd20a207d9c7bfb3f02e06887bb17ee337cc168c0a9150b3f2", func := "loop.example/g00409/laws.FnExactColourThree", spec := "fnExactColourThree", recurses := true, plainKeys := false, apart := false }
def FnExactColourThreeSaid : Prop := fnExactColourThreeRow.holds Try.pinned (OpenSpec.ofChange fnExactColourThreeSpec)

/-- ITS FALSE NEIGHBOUR: 'it returns false'. Refute it at one input. -/
def fnExactColourThreeWrong : ChangeSpec := { name := "fnExactColourThree", fn := fun _ => fun
  | [d] => { results := [.lit (.bool false)], args := [d] }
  | _ => none }
def FnExactColourThreeWrongFalsely : Prop := fnExactColourThreeRow.holds Try.pinned (OpenSpec.ofChange fnExactColourThreeWrong)

/-- 'laws.FnExactGuardsOf': WHATEVER THE INPUT: true; the input reads as it did. -/
def fnExactGuardsOfSpec : ChangeSpec := { name := "fnExactGuardsOf", fn := fun _ => fun
  | [d] => { results := [.lit (.bool true)], args := [d] }
  | _ => none }
def fnExactGuardsOfRow : OpenClaim := { program := "ytblhjeepelgdaaa", sum := "ded4dd24efeafabd20a207d9c7bfb3f02e06887bb17ee337cc168c0a9150b3f2", func := "loop.example/g00409/laws.FnExactGuardsOf", spec := "fnExactGuardsOf", recurses := true, plainKeys := false, apart := false }
def FnExactGuardsOfSaid : Prop := fnExactGuardsOfRow.holds Try.pinned (OpenSpec.ofChange fnExactGuardsOfSpec)

/-- ITS FALSE NEIGHBOUR: 'it returns false'. Refute it at one input. -/
def fnExactGuardsOfWrong : ChangeSpec := { name := "fnExactGuardsOf", fn := fun _ => fun
  | [d] => { results := [.lit (.bool false)], args := [d] }
  | _ => none }
def FnExactGuardsOfWrongFalsely : Prop := fnExactGuardsOfRow.holds Try.pinned (OpenSpec.ofChange fnExactGuardsOfWrong)

/-- 'laws.FnExactSees': WHATEVER THE INPUT: true; the input reads as it did. -/
def fnExactSeesSpec : ChangeSpec := { name := "fnExactSees", fn := fun _ => fun
  | [d1, d2, d3] => { results := [.lit (.bool true)], args := [d1, d2, d3] }
  | _ => none }
def fnExactSeesRow : OpenClaim := { program := "ytblhjeepelgdaaa", sum := "ded4dd24efeafabd20a207d9c7bfb3f02e06887bb17ee337cc168c0a9150b3f2", func := "loop.example/g00409/laws.FnExactSees", spec := "fnExactSees", plainKeys := false, apart := false }
def FnExactSeesSaid : Prop := fnExactSeesRow.holds Try.pinned (OpenSpec.ofChange fnExactSeesSpec)

/-- ITS FALSE NEIGHBOUR: 'it returns false'. Refute it at one input. -/
def fnExactSeesWrong : ChangeSpec := { name := "fnExactSees", fn := fun _ => fun
  | [d1, d2, d3] => { results := [.lit (.bool false)], args := [d1, d2, d3] }
  | _ => none }
def FnExactSeesWrongFalsely : Prop := fnExactSeesRow.holds Try.pinned (OpenSpec.ofChange fnExactSeesWrong)

/-- 'laws.FnExactInTriangle': WHATEVER THE INPUT: true; the input reads as it did. -/
def fnExactInTriangleSpec : ChangeSpec := { name := "fnExactInTriangle", fn := fun _ => fun
  | [d1, d2, d3, d4] => { results := [.lit (.bool true)], args := [d1, d2, d3, d4] }
  | _ => none }
def fnExactInTriangleRow : OpenClaim := { program := "ytblhjeepelgdaaa", sum := "ded4dd24efeafabd20a207d9c7bfb3f02e06887bb17ee337cc168c0a9150b3f2", func := "loop.example/g00409/laws.FnExactInTriangle", spec := "fnExactInTriangle", plainKeys := false, apart := false }
def FnExactInTriangleSaid : Prop := fnExactInTriangleRow.holds Try.pinned (OpenSpec.ofChange fnExactInTriangleSpec)

/-- ITS FALSE NEIGHBOUR: 'it returns false'. Refute it at one input. -/
def fnExactInTriangleWrong : ChangeSpec := { name := "fnExactInTriangle", fn := fun _ => fun
  | [d1, d2, d3, d4] => { results := [.lit (.bool false)], args := [d1, d2, d3, d4] }
  | _ => none }
def FnExactInTriangleWrongFalsely : Prop := fnExactInTriangleRow.holds Try.pinned (OpenSpec.ofChange fnExactInTriangleWrong)

/-- 'laws.FnExactInnerPoints': WHATEVER THE INPUT: true; the input reads as it did. -/
def fnExactInnerPointsSpec : ChangeSpec := { name := "fnExactInnerPoints", fn := fun _ => fun
  | [d] => { results := [.lit (.bool true)], args := [d] }
  | _ => none }
def fnExactInnerPointsRow : OpenClaim := { program := "ytblhjeepelgdaaa", sum := "ded4dd24efeafabd20a207d9c7bfb3f02e06887bb17ee337cc168c0a9150b3f2", func := "loop.example/g00409/laws.FnExactInnerPoints", spec := "fnExactInnerPoints", plainKeys := false, apart := false }
def FnExactInnerPointsSaid : Prop := fnExactInnerPointsRow.holds Try.pinned (OpenSpec.ofChange fnExactInnerPointsSpec)

/-- ITS FALSE NEIGHBOUR: 'it returns false'. Refute it at one input. -/
def fnExactInnerPointsWrong : ChangeSpec := { name := "fnExactInnerPoints", fn := fun _ => fun
  | [d] => { results := [.lit (.bool false)], args := [d] }
  | _ => none }
def FnExactInnerPointsWrongFalsely : Prop := fnExactInnerPointsRow.holds Try.pinned (OpenSpec.ofChange fnExactInnerPointsWrong)

/- THE SECOND FORM. 'bulk': how many values and letters a reading holds, each counted each time it is reached (what is shared counts as often as it is met; a slice's spare places count too). A statement '..UptoSaid' is the law's where the arguments, and the package variables that the reading takes, are together of bulk at most 1048576: NARROWER than '..Said'. Prove '..Said' where nothing that the law and all that it calls make is longer than what came in: it says more and counts as full. Else prove '..UptoSaid'. A law counts once. -/
mutual
def uptoBulk {H : Type} : DataW H → Nat
  | .lit (.string bytes) => bytes.length + 1
  | .lit _ => 1
  | .nil => 1
  | .ptr d => uptoBulk d + 1
  | .slice elems spare => uptoBulkAll elems + uptoBulkAll spare + 1
  | .agg parts => uptoBulkAll parts + 1
  | .iface _ d => uptoBulk d + 1
  | .map entries => uptoBulkEntries entries + 1
  | .held _ => 1
def uptoBulkAll {H : Type} : List (DataW H) → Nat
  | [] => 0
  | d :: r => uptoBulk d + uptoBulkAll r
def uptoBulkEntries {H : Type} : List (Lit × DataW H) → Nat
  | [] => 0
  | x :: r => uptoBulkEntry x + uptoBulkEntries r
def uptoBulkEntry {H : Type} : Lit × DataW H → Nat
  | (.string bytes, d) => bytes.length + uptoBulk d + 1
  | (_, d) => uptoBulk d + 1
 end
def uptoSmall : (H : Type) → List (DataW H) → Bool := fun _ ds => decide (uptoBulkAll ds ≤ 1048576)
def OpenSpec.upto (s : _root_.Go.ChangeSpec) : _root_.Go.OpenSpec := { _root_.Go.OpenSpec.ofChange s with cond := some uptoSmall }

/-- 'laws.FnColours', WHERE WHAT IT READS IS OF BULK AT MOST 1048576: true; the input reads as it did. -/
def fnColoursUptoRow : OpenClaim := { program := "ytblhjeepelgdaaa", sum := "ded4dd24efeafabd20a207d9c7bfb3f02e06887bb17ee337cc168c0a9150b3f2", func := "loop.example/g00409/laws.FnColours", spec := "fnColours", recurses := true, plainKeys := false, apart := false, narrowed := true }
def FnColoursUptoSaid : Prop := fnColoursUptoRow.holds Try.pinned (OpenSpec.upto fnColoursSpec)

/-- 'laws.FnExactEarsOf', WHERE WHAT IT READS IS OF BULK AT MOST 1048576: true; the input reads as it did. -/
def fnExactEarsOfUptoRow : OpenClaim := { program := "ytblhjeepelgdaaa", sum := "ded4dd24efeafabd20a207d9c7bfb3f02e06887bb17ee337cc168c0a9150b3f2", func := "loop.example/g00409/laws.FnExactEarsOf", spec := "fnExactEarsOf", recurses := true, plainKeys := false, apart := false, narrowed := true }
def FnExactEarsOfUptoSaid : Prop := fnExactEarsOfUptoRow.holds Try.pinned (OpenSpec.upto fnExactEarsOfSpec)

/-- 'laws.FnExactTriangulate', WHERE WHAT IT READS IS OF BULK AT MOST 1048576: true; the input reads as it did. -/
def fnExactTriangulateUptoRow : OpenClaim := { program := "ytblhjeepelgdaaa", sum := "ded4dd24efeafabd20a207d9c7bfb3f02e06887bb17ee337cc168c0a9150b3f2", func := "loop.example/g00409/laws.FnExactTriangulate", spec := "fnExactTriangulate", recurses := true, plainKeys := false, apart := false, narrowed := true }
def FnExactTriangulateUptoSaid : Prop := fnExactTriangulateUptoRow.holds Try.pinned (OpenSpec.upto fnExactTriangulateSpec)

/-- 'laws.FnExactIsTriangulation', WHERE WHAT IT READS IS OF BULK AT MOST 1048576: true; the input reads as it did. -/
def fnExactIsTriangulationUptoRow : OpenClaim := { program := "ytblhjeepelgdaaa", sum := "ded4dd24efeafabd20a207d9c7bfb3f02e06887bb17ee337cc168c0a9150b3f2", func := "loop.example/g00409/laws.FnExactIsTriangulation", spec := "fnExactIsTriangulation", plainKeys := false, apart := false, narrowed := true }
def FnExactIsTriangulationUptoSaid : Prop := fnExactIsTriangulationUptoRow.holds Try.pinned (OpenSpec.upto fnExactIsTriangulationSpec)

/-- 'laws.FnExactColourThree', WHERE WHAT IT READS IS OF BULK AT MOST 1048576: true; the input reads as it did. -/
def fnExactColourThreeUptoRow : OpenClaim := { program := "ytblhjeepelgdaaa", sum := "ded4dd24efeafabd20a207d9c7bfb3f02e06887bb17ee337cc168c0a9150b3f2", func := "loop.example/g00409/laws.FnExactColourThree", spec := "fnExactColourThree", recurses := true, plainKeys := false, apart := false, narrowed := true }
def FnExactColourThreeUptoSaid : Prop := fnExactColourThreeUptoRow.holds Try.pinned (OpenSpec.upto fnExactColourThreeSpec)

/-- 'laws.FnExactGuardsOf', WHERE WHAT IT READS IS OF BULK AT MOST 1048576: true; the input reads as it did. -/
def fnExactGuardsOfUptoRow : OpenClaim := { program := "ytblhjeepelgdaaa", sum := "ded4dd24efeafabd20a207d9c7bfb3f02e06887bb17ee337cc168c0a9150b3f2", func := "loop.example/g00409/laws.FnExactGuardsOf", spec := "fnExactGuardsOf", recurses := true, plainKeys := false, apart := false, narrowed := true }
def FnExactGuardsOfUptoSaid : Prop := fnExactGuardsOfUptoRow.holds Try.pinned (OpenSpec.upto fnExactGuardsOfSpec)

/-- 'laws.FnExactSees', WHERE WHAT IT READS IS OF BULK AT MOST 1048576: true; the input reads as it did. -/
def fnExactSeesUptoRow : OpenClaim := { program := "ytblhjeepelgdaaa", sum := "ded4dd24efeafabd20a207d9c7bfb3f02e06887bb17ee337cc168c0a9150b3f2", func := "loop.example/g00409/laws.FnExactSees", spec := "fnExactSees", plainKeys := false, apart := false, narrowed := true }
def FnExactSeesUptoSaid : Prop := fnExactSeesUptoRow.holds Try.pinned (OpenSpec.upto fnExactSeesSpec)

/-- 'laws.FnExactInTriangle', WHERE WHAT IT READS IS OF BULK AT MOST 1048576: true; the input reads as it did. -/
def fnExactInTriangleUptoRow : OpenClaim := { program := "ytblhjeepelgdaaa", sum := "ded4dd24efeafabd20a207d9c7bfb3f02e06887bb17ee337cc168c0a9150b3f2", func := "loop.example/g00409/laws.FnExactInTriangle", spec := "fnExactInTriangle", plainKeys := false, apart := false, narrowed := true }
def FnExactInTriangleUptoSaid : Prop := fnExactInTriangleUptoRow.holds Try.pinned (OpenSpec.upto fnExactInTriangleSpec)

/-- 'laws.FnExactInnerPoints', WHERE WHAT IT READS IS OF BULK AT MOST 1048576: true; the input reads as it did. -/
def fnExactInnerPointsUptoRow : OpenClaim := { program := "ytblhjeepelgdaaa", sum := "ded4dd24efeafabd20a207d9c7bfb3f02e06887bb17ee337cc168c0a9150b3f2", func := "loop.example/g00409/laws.FnExactInnerPoints", spec := "fnExactInnerPoints", plainKeys := false, apart := false, narrowed := true }
def FnExactInnerPointsUptoSaid : Prop := fnExactInnerPointsUptoRow.holds Try.pinned (OpenSpec.upto fnExactInnerPointsSpec)

end Rows
end Go.Proofs.Ytblhjeepelgdaaa
