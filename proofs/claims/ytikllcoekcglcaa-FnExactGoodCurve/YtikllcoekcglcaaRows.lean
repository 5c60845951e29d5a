/-
  No cell of these rows narrows 'for every input' (looked for: loops, veiled, ifaces, maps, wideKeys, modest, calm, conditions, laid).
  DERIVED. THE GIVEN ROWS OF THIS SEAT. 6 by the template 'for every input the law returns true; each argument reads behind the call as it read before'; 0 by the template 'total and deterministic' (their statements: YtikllcoekcglcaaTotals.lean).
  GIVEN WITH THE SEED: the statements are not yours to turn. If you find one false, say at which input.
  Laid BY PROGRAM, IN A SANDBOX (cutbox-rows.mjs): the forced cells as the released guide's own fill.sh prints them over the translation 6e90209df355b9ab… (all of the seat's roots in one cut). By AI agents, Wed Nov 11 2026. No macro, syntax, notation, axiom, sorry.
-/
import Derived.Test.YtikllcoekcglcaaChecked
import GoSem.Claim
import GoSem.ClaimJoined
import GoSem.ClaimMapViews
import Derived.JoinedTies
import Derived.KernelRfl
namespace Go.Proofs.Ytikllcoekcglcaa
/- THE CELL 'sum', in the pinned program and in every row, IS THE sha256 OF THE DUMP (.gsa) THAT YtikllcoekcglcaaProg.lean LOADS. Nothing in Lean hashes anything: it is a label: what it is worth is what the hold of that sum in a sandbox is worth. -/
noncomputable def Try.pinned : Pinned := { name := "ytikllcoekcglcaa", sum := "6e90209df355b9aba3f7bc9836c67d0e7407e06c4842cdf97a09fcb69f5090aa", checked := Try.checked }
namespace Rows
def none {H : Type} : Left H := { results := [], args := [] }

/-- 'laws.FnExactGoodCurve': WHATEVER THE INPUT: true; the input reads as it did. -/
def fnExactGoodCurveSpec : ChangeSpec := { name := "fnExactGoodCurve", fn := fun _ => fun
  | [d] => { results := [.lit (.bool true)], args := [d] }
  | _ => none }
def fnExactGoodCurveRow : OpenClaim := { program := "ytikllcoekcglcaa", sum := "6e90209df355b9aba3f7bc9836c67d0e7407e06c4842cdf97a09fcb69f5090aa", func := "loop.example/g00409/laws.FnExactGoodCurve", spec := "fnExactGoodCurve", unfollowed := true, recurses := true, apart := false }
def FnExactGoodCurveSaid : Prop := fnExactGoodCurveRow.holds Try.pinned (OpenSpec.ofChange fnExactGoodCurveSpec)

/-- ITS FALSE NEIGHBOUR: 'it returns false'. Refute it at one input. -/
def fnExactGoodCurveWrong : ChangeSpec := { name := "fnExactGoodCurve", fn := fun _ => fun
  | [d] => { results := [.lit (.bool false)], args := [d] }
  | _ => none }
def FnExactGoodCurveWrongFalsely : Prop := fnExactGoodCurveRow.holds Try.pinned (OpenSpec.ofChange fnExactGoodCurveWrong)

/-- 'laws.FnExactReverseCurve': WHATEVER THE INPUT: true; the input reads as it did. -/
def fnExactReverseCurveSpec : ChangeSpec := { name := "fnExactReverseCurve", fn := fun _ => fun
  | [d] => { results := [.lit (.bool true)], args := [d] }
  | _ => none }
def fnExactReverseCurveRow : OpenClaim := { program := "ytikllcoekcglcaa", sum := "6e90209df355b9aba3f7bc9836c67d0e7407e06c4842cdf97a09fcb69f5090aa", func := "loop.example/g00409/laws.FnExactReverseCurve", spec := "fnExactReverseCurve", unfollowed := true, recurses := true, apart := false }
def FnExactReverseCurveSaid : Prop := fnExactReverseCurveRow.holds Try.pinned (OpenSpec.ofChange fnExactReverseCurveSpec)

/-- ITS FALSE NEIGHBOUR: 'it returns false'. Refute it at one input. -/
def fnExactReverseCurveWrong : ChangeSpec := { name := "fnExactReverseCurve", fn := fun _ => fun
  | [d] => { results := [.lit (.bool false)], args := [d] }
  | _ => none }
def FnExactReverseCurveWrongFalsely : Prop := fnExactReverseCurveRow.holds Try.pinned (OpenSpec.ofChange fnExactReverseCurveWrong)

/-- 'laws.FnExactCurveOf': WHATEVER THE INPUT: true; the input reads as it did. -/
def fnExactCurveOfSpec : ChangeSpec := { name := "fnExactCurveOf", fn := fun _ => fun
  | [d] => { results := [.lit (.bool true)], args := [d] }
  | _ => none }
def fnExactCurveOfRow : OpenClaim := { program := "ytikllcoekcglcaa", sum := "6e90209df355b9aba3f7bc9836c67d0e7407e06c4842cdf97a09fcb69f5090aa", func := "loop.example/g00409/laws.FnExactCurveOf", spec := "fnExactCurveOf", apart := false }
def FnExactCurveOfSaid : Prop := fnExactCurveOfRow.holds Try.pinned (OpenSpec.ofChange fnExactCurveOfSpec)

/-- ITS FALSE NEIGHBOUR: 'it returns false'. Refute it at one input. -/
def fnExactCurveOfWrong : ChangeSpec := { name := "fnExactCurveOf", fn := fun _ => fun
  | [d] => { results := [.lit (.bool false)], args := [d] }
  | _ => none }
def FnExactCurveOfWrongFalsely : Prop := fnExactCurveOfRow.holds Try.pinned (OpenSpec.ofChange fnExactCurveOfWrong)

/-- 'laws.FnExactGoodRing': WHATEVER THE INPUT: true; the input reads as it did. -/
def fnExactGoodRingSpec : ChangeSpec := { name := "fnExactGoodRing", fn := fun _ => fun
  | [d] => { results := [.lit (.bool true)], args := [d] }
  | _ => none }
def fnExactGoodRingRow : OpenClaim := { program := "ytikllcoekcglcaa", sum := "6e90209df355b9aba3f7bc9836c67d0e7407e06c4842cdf97a09fcb69f5090aa", func := "loop.example/g00409/laws.FnExactGoodRing", spec := "fnExactGoodRing", unfollowed := true, recurses := true, apart := false }
def FnExactGoodRingSaid : Prop := fnExactGoodRingRow.holds Try.pinned (OpenSpec.ofChange fnExactGoodRingSpec)

/-- ITS FALSE NEIGHBOUR: 'it returns false'. Refute it at one input. -/
def fnExactGoodRingWrong : ChangeSpec := { name := "fnExactGoodRing", fn := fun _ => fun
  | [d] => { results := [.lit (.bool false)], args := [d] }
  | _ => none }
def FnExactGoodRingWrongFalsely : Prop := fnExactGoodRingRow.holds Try.pinned (OpenSpec.ofChange fnExactGoodRingWrong)

/-- 'laws.FnExactRingOf': WHATEVER THE INPUT: true; the input reads as it did. -/
def fnExactRingOfSpec : ChangeSpec := { name := "fnExactRingOf", fn := fun _ => fun
  | [d] => { results := [.lit (.bool true)], args := [d] }
  | _ => none }
def fnExactRingOfRow : OpenClaim := { program := "ytikllcoekcglcaa", sum := "6e90209df355b9aba3f7bc9836c67d0e7407e06c4842cdf97a09fcb69f5090aa", func := "loop.example/g00409/laws.FnExactRingOf", spec := "fnExactRingOf", apart := false }
def FnExactRingOfSaid : Prop := fnExactRingOfRow.holds Try.pinned (OpenSpec.ofChange fnExactRingOfSpec)

/-- ITS FALSE NEIGHBOUR: 'it returns false'. Refute it at one input. -/
def fnExactRingOfWrong : ChangeSpec := { name := "fnExactRingOf", fn := fun _ => fun
  | [d] => { results := [.lit (.bool false)], args := [d] }
  | _ => none }
def FnExactRingOfWrongFalsely : Prop := fnExactRingOfRow.holds Try.pinned (OpenSpec.ofChange fnExactRingOfWrong)

/-- 'laws.FnExactFlipRing': WHATEVER THE INPUT: true; the input reads as it did. -/
def fnExactFlipRingSpec : ChangeSpec := { name := "fnExactFlipRing", fn := fun _ => fun
  | [d] => { results := [.lit (.bool true)], args := [d] }
  | _ => none }
def fnExactFlipRingRow : OpenClaim := { program := "ytikllcoekcglcaa", sum := "6e90209df355b9aba3f7bc9836c67d0e7407e06c4842cdf97a09fcb69f5090aa", func := "loop.example/g00409/laws.FnExactFlipRing", spec := "fnExactFlipRing", unfollowed := true, recurses := true, apart := false }
def FnExactFlipRingSaid : Prop := fnExactFlipRingRow.holds Try.pinned (OpenSpec.ofChange fnExactFlipRingSpec)

/-- ITS FALSE NEIGHBOUR: 'it returns false'. Refute it at one input. -/
def fnExactFlipRingWrong : ChangeSpec := { name := "fnExactFlipRing", fn := fun _ => fun
  | [d] => { results := [.lit (.bool false)], args := [d] }
  | _ => none }
def FnExactFlipRingWrongFalsely : Prop := fnExactFlipRingRow.holds Try.pinned (OpenSpec.ofChange fnExactFlipRingWrong)

/- THE SECOND FORM. 'bulk': how many values and letters a reading holds, each counted each time it is reached (what is shared counts as often as it is met; a slice's spare places count too). A statement '..UptoSaid' is the law's where the arguments, and the package variables that the reading takes, are together of bulk at most 1048576: NARROWER than '..Said'. Prove '..Said' where nothing that the law and all that it calls make is longer than what came in: it says more and counts as full. Else prove '..UptoSaid'. A law counts once. -/
mutual
def uptoBulk {H : Type} : DataW H → Nat
  | .lit (.string bytes) => bytes.length + 1
  | .lit _ => 1
  | .nil => 1
  | .ptr d => uptoBulk d + 1
  | .slice elems spare => uptoBulkAll elems + uptoBulkAll spare + 1
  | .agg parts => uptoBulkAll parts + 1
  | .iface _ d => uptoBulk d + 1
  | .map entries => uptoBulkEntries entries + 1
  | .held _ => 1
def uptoBulkAll {H : Type} : List (DataW H) → Nat
  | [] => 0
  | d :: r => uptoBulk d + uptoBulkAll r
def uptoBulkEntries {H : Type} : List (Lit × DataW H) → Nat
  | [] => 0
  | x :: r => uptoBulkEntry x + uptoBulkEntries r
def uptoBulkEntry {H : Type} : Lit × DataW H → Nat
  | (.string bytes, d) => bytes.length + uptoBulk d + 1
  | (_, d) => uptoBulk d + 1
 end
def uptoSmall : (H : Type) → List (DataW H) → Bool := fun _ ds => decide (uptoBulkAll ds ≤ 1048576)
def OpenSpec.upto (s : _root_.Go.ChangeSpec) : _root_.Go.OpenSpec := { _root_.Go.OpenSpec.ofChange s with cond := some uptoSmall }

/-- 'laws.FnExactGoodCurve', WHERE WHAT IT READS IS OF BULK AT MOST 1048576: true; the input reads as it did. -/
def fnExactGoodCurveUptoRow : OpenClaim := { program := "ytikllcoekcglcaa", sum := "6e90209df355b9aba3f7bc9836c67d0e7407e06c4842cdf97a09fcb69f5090aa", func := "loop.example/g00409/laws.FnExactGoodCurve", spec := "fnExactGoodCurve", unfollowed := true, recurses := true, apart := false, narrowed := true }
def FnExactGoodCurveUptoSaid : Prop := fnExactGoodCurveUptoRow.holds Try.pinned (OpenSpec.upto fnExactGoodCurveSpec)

/-- 'laws.FnExactReverseCurve', WHERE WHAT IT READS IS OF BULK AT MOST 1048576: true; the input reads as it did. -/
def fnExactReverseCurveUptoRow : OpenClaim := { program := "ytikllcoekcglcaa", sum := "6e90209df355b9aba3f7bc9836c67d0e7407e06c4842cdf97a09fcb69f5090aa", func := "loop.example/g00409/laws.FnExactReverseCurve", spec := "fnExactReverseCurve", unfollowed := true, recurses := true, apart := false, narrowed := true }
def FnExactReverseCurveUptoSaid : Prop := fnExactReverseCurveUptoRow.holds Try.pinned (OpenSpec.upto fnExactReverseCurveSpec)

/-- 'laws.FnExactCurveOf', WHERE WHAT IT READS IS OF BULK AT MOST 1048576: true; the input reads as it did. -/
def fnExactCurveOfUptoRow : OpenClaim := { program := "ytikllcoekcglcaa", sum := "6e90209df355b9aba3f7bc9836c67d0e7407e06c4842cdf97a09fcb69f5090aa", func := "loop.example/g00409/laws.FnExactCurveOf", spec := "fnExactCurveOf", apart := false, narrowed := true }
def FnExactCurveOfUptoSaid : Prop := fnExactCurveOfUptoRow.holds Try.pinned (OpenSpec.upto fnExactCurveOfSpec)

/-- 'laws.FnExactGoodRing', WHERE WHAT IT READS IS OF BULK AT MOST 1048576: true; the input reads as it did. -/
def fnExactGoodRingUptoRow : OpenClaim := { program := "ytikllcoekcglcaa", sum := "6e90209df355b9aba3f7bc9836c67d0e7407e06c4842cdf97a09fcb69f5090aa", func := "loop.example/g00409/laws.FnExactGoodRing", spec := "fnExactGoodRing", unfollowed := true, recurses := true, apart := false, narrowed := true }
def FnExactGoodRingUptoSaid : Prop := fnExactGoodRingUptoRow.holds Try.pinned (OpenSpec.upto fnExactGoodRingSpec)

/-- 'laws.FnExactRingOf', WHERE WHAT IT READS IS OF BULK AT MOST 1048576: true; the input reads as it did. -/
def fnExactRingOfUptoRow : OpenClaim := { program := "ytikllcoekcglcaa", sum := "6e90209df355b9aba3f7bc9836c67d0e7407e06c4842cdf97a09fcb69f5090aa", func := "loop.example/g00409/laws.FnExactRingOf", spec := "fnExactRingOf", apart := false, narrowed := true }
def FnExactRingOfUptoSaid : Prop := fnExactRingOfUptoRow.holds Try.pinned (OpenSpec.upto fnExactRingOfSpec)

/-- 'laws.FnExactFlipRing', WHERE WHAT IT READS IS OF BULK AT MOST 1048576: true; the input reads as it did. -/
def fnExactFlipRingUptoRow : OpenClaim := { program := "ytikllcoekcglcaa", sum := "6e90209df355b9aba3f7bc9836c67d0e7407e06c4842cdf97a09fcb69f5090aa", func := "loop.example/g00409/laws.FnExactFlipRing", spec := "fnExactFlipRing", unfollowed := true, recurses := true, apart := false, narrowed := true }
def FnExactFlipRingUptoSaid : Prop := fnExactFlipRingUptoRow.holds Try.pinned (OpenSpec.upto fnExactFlipRingSpec)

end Rows
end Go.Proofs.Ytikllcoekcglcaa
