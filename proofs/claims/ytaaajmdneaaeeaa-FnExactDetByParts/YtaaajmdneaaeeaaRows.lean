/-
  No cell of these rows narrows 'for every input' (looked for: loops, veiled, ifaces, maps, wideKeys, modest, calm, conditions, laid).
  DERIVED. THE GIVEN ROWS OF THIS SEAT. 7 by the template 'for every input the law returns true; each argument reads behind the call as it read before'; 0 by the template 'total and deterministic' (their statements: YtaaajmdneaaeeaaTotals.lean).
  GIVEN WITH THE SEED: the statements are not yours to turn. If you find one false, say at which input.
  Laid BY PROGRAM, IN A SANDBOX (cutbox-rows.mjs): the forced cells as the released guide's own fill.sh prints them over the translation 25eec8dad8803b0f… (all of the seat's roots in one cut). By AI agents, Wed Nov 11 2026. No macro, syntax, notation, axiom, sorry.
-/
import Derived.Test.YtaaajmdneaaeeaaChecked
import GoSem.Claim
import GoSem.ClaimJoined
import GoSem.ClaimMapViews
import Derived.JoinedTies
import Derived.KernelRfl
namespace Go.Proofs.Ytaaajmdneaaeeaa
/- THE CELL 'sum', in the pinned program and in every row, IS THE sha256 OF THE DUMP (.gsa) THAT YtaaajmdneaaeeaaProg.lean LOADS. Nothing in Lean hashes anything: it is a label: what it is worth is what the hold of that sum in a sandbox is worth. -/
noncomputable def Try.pinned : Pinned := { name := "ytaaajmdneaaeeaa", sum := "25eec8dad8803b0f65ccfccc47e0cd92aae3bcb9a489ce18331c8b72d28da05d", checked := Try.checked }
namespace Rows
def none {H : Type} : Left H := { results := [], args := [] }

/-- 'laws.FnDets': WHATEVER THE INPUT: true; the input reads as it did. -/
def fnDetsSpec : ChangeSpec := { name := "fnDets", fn := fun _ => fun
  | [d1, d2] => { results := [.lit (.bool true)], args := [d1, d2] }
  | _ => none }
def fnDetsRow : OpenClaim := { program := "ytaaajmdneaaeeaa", sum := "25eec8dad8803b0f65ccfccc47e0cd92aae3bcb9a489ce18331c8b72d28da05d", func := "loop.example/g00409/laws.FnDets", spec := "fnDets", unfollowed := true, recurses := true, apart := false }
def FnDetsSaid : Prop := fnDetsRow.holds Try.pinned (OpenSpec.ofChange fnDetsSpec)

/-- ITS FALSE NEIGHBOUR: 'it returns false'. Refute it at one input. -/
def fnDetsWrong : ChangeSpec := { name := "fnDets", fn := fun _ => fun
  | [d1, d2] => { results := [.lit (.bool false)], args := [d1, d2] }
  | _ => none }
def FnDetsWrongFalsely : Prop := fnDetsRow.holds Try.pinned (OpenSpec.ofChange fnDetsWrong)

/-- 'laws.FnExactDetOf': WHATEVER THE INPUT: true; the input reads as it did. -/
def fnExactDetOfSpec : ChangeSpec := { name := "fnExactDetOf", fn := fun _ => fun
  | [d] => { results := [.lit (.bool true)], args := [d] }
  | _ => none }
def fnExactDetOfRow : OpenClaim := { program := "ytaaajmdneaaeeaa", sum := "25eec8dad8803b0f65ccfccc47e0cd92aae3bcb9a489ce18331c8b72d28da05d", func := "loop.example/g00409/laws.FnExactDetOf", spec := "fnExactDetOf", unfollowed := true, recurses := true, apart := false }
def FnExactDetOfSaid : Prop := fnExactDetOfRow.holds Try.pinned (OpenSpec.ofChange fnExactDetOfSpec)

/-- ITS FALSE NEIGHBOUR: 'it returns false'. Refute it at one input. -/
def fnExactDetOfWrong : ChangeSpec := { name := "fnExactDetOf", fn := fun _ => fun
  | [d] => { results := [.lit (.bool false)], args := [d] }
  | _ => none }
def FnExactDetOfWrongFalsely : Prop := fnExactDetOfRow.holds Try.pinned (OpenSpec.ofChange fnExactDetOfWrong)

/-- 'laws.FnExactDetByParts': WHATEVER THE INPUT: true; the input reads as it did. -/
def fnExactDetByPartsSpec : ChangeSpec := { name := "fnExactDetByParts", fn := fun _ => fun
  | [d] => { results := [.lit (.bool true)], args := [d] }
  | _ => none }
def fnExactDetByPartsRow : OpenClaim := { program := "ytaaajmdneaaeeaa", sum := "25eec8dad8803b0f65ccfccc47e0cd92aae3bcb9a489ce18331c8b72d28da05d", func := "loop.example/g00409/laws.FnExactDetByParts", spec := "fnExactDetByParts", unfollowed := true, recurses := true, apart := false }
def FnExactDetByPartsSaid : Prop := fnExactDetByPartsRow.holds Try.pinned (OpenSpec.ofChange fnExactDetByPartsSpec)

/-- ITS FALSE NEIGHBOUR: 'it returns false'. Refute it at one input. -/
def fnExactDetByPartsWrong : ChangeSpec := { name := "fnExactDetByParts", fn := fun _ => fun
  | [d] => { results := [.lit (.bool false)], args := [d] }
  | _ => none }
def FnExactDetByPartsWrongFalsely : Prop := fnExactDetByPartsRow.holds Try.pinned (OpenSpec.ofChange fnExactDetByPartsWrong)

/-- 'laws.FnExactSylvesterOf': WHATEVER THE INPUT: true; the input reads as it did. -/
def fnExactSylvesterOfSpec : ChangeSpec := { name := "fnExactSylvesterOf", fn := fun _ => fun
  | [d1, d2] => { results := [.lit (.bool true)], args := [d1, d2] }
  | _ => none }
def fnExactSylvesterOfRow : OpenClaim := { program := "ytaaajmdneaaeeaa", sum := "25eec8dad8803b0f65ccfccc47e0cd92aae3bcb9a489ce18331c8b72d28da05d", func := "loop.example/g00409/laws.FnExactSylvesterOf", spec := "fnExactSylvesterOf", unfollowed := true, recurses := true, apart := false }
def FnExactSylvesterOfSaid : Prop := fnExactSylvesterOfRow.holds Try.pinned (OpenSpec.ofChange fnExactSylvesterOfSpec)

/-- ITS FALSE NEIGHBOUR: 'it returns false'. Refute it at one input. -/
def fnExactSylvesterOfWrong : ChangeSpec := { name := "fnExactSylvesterOf", fn := fun _ => fun
  | [d1, d2] => { results := [.lit (.bool false)], args := [d1, d2] }
  | _ => none }
def FnExactSylvesterOfWrongFalsely : Prop := fnExactSylvesterOfRow.holds Try.pinned (OpenSpec.ofChange fnExactSylvesterOfWrong)

/-- 'laws.FnExactResultantOf': WHATEVER THE INPUT: true; the input reads as it did. -/
def fnExactResultantOfSpec : ChangeSpec := { name := "fnExactResultantOf", fn := fun _ => fun
  | [d1, d2] => { results := [.lit (.bool true)], args := [d1, d2] }
  | _ => none }
def fnExactResultantOfRow : OpenClaim := { program := "ytaaajmdneaaeeaa", sum := "25eec8dad8803b0f65ccfccc47e0cd92aae3bcb9a489ce18331c8b72d28da05d", func := "loop.example/g00409/laws.FnExactResultantOf", spec := "fnExactResultantOf", unfollowed := true, recurses := true, apart := false }
def FnExactResultantOfSaid : Prop := fnExactResultantOfRow.holds Try.pinned (OpenSpec.ofChange fnExactResultantOfSpec)

/-- ITS FALSE NEIGHBOUR: 'it returns false'. Refute it at one input. -/
def fnExactResultantOfWrong : ChangeSpec := { name := "fnExactResultantOf", fn := fun _ => fun
  | [d1, d2] => { results := [.lit (.bool false)], args := [d1, d2] }
  | _ => none }
def FnExactResultantOfWrongFalsely : Prop := fnExactResultantOfRow.holds Try.pinned (OpenSpec.ofChange fnExactResultantOfWrong)

/-- 'laws.FnExactDiscriminantOf': WHATEVER THE INPUT: true; the input reads as it did. -/
def fnExactDiscriminantOfSpec : ChangeSpec := { name := "fnExactDiscriminantOf", fn := fun _ => fun
  | [d] => { results := [.lit (.bool true)], args := [d] }
  | _ => none }
def fnExactDiscriminantOfRow : OpenClaim := { program := "ytaaajmdneaaeeaa", sum := "25eec8dad8803b0f65ccfccc47e0cd92aae3bcb9a489ce18331c8b72d28da05d", func := "loop.example/g00409/laws.FnExactDiscriminantOf", spec := "fnExactDiscriminantOf", unfollowed := true, recurses := true, apart := false }
def FnExactDiscriminantOfSaid : Prop := fnExactDiscriminantOfRow.holds Try.pinned (OpenSpec.ofChange fnExactDiscriminantOfSpec)

/-- ITS FALSE NEIGHBOUR: 'it returns false'. Refute it at one input. -/
def fnExactDiscriminantOfWrong : ChangeSpec := { name := "fnExactDiscriminantOf", fn := fun _ => fun
  | [d] => { results := [.lit (.bool false)], args := [d] }
  | _ => none }
def FnExactDiscriminantOfWrongFalsely : Prop := fnExactDiscriminantOfRow.holds Try.pinned (OpenSpec.ofChange fnExactDiscriminantOfWrong)

/-- 'laws.FnExactTransposeOf': WHATEVER THE INPUT: true; the input reads as it did. -/
def fnExactTransposeOfSpec : ChangeSpec := { name := "fnExactTransposeOf", fn := fun _ => fun
  | [d] => { results := [.lit (.bool true)], args := [d] }
  | _ => none }
def fnExactTransposeOfRow : OpenClaim := { program := "ytaaajmdneaaeeaa", sum := "25eec8dad8803b0f65ccfccc47e0cd92aae3bcb9a489ce18331c8b72d28da05d", func := "loop.example/g00409/laws.FnExactTransposeOf", spec := "fnExactTransposeOf", unfollowed := true, recurses := true, apart := false }
def FnExactTransposeOfSaid : Prop := fnExactTransposeOfRow.holds Try.pinned (OpenSpec.ofChange fnExactTransposeOfSpec)

/-- ITS FALSE NEIGHBOUR: 'it returns false'. Refute it at one input. -/
def fnExactTransposeOfWrong : ChangeSpec := { name := "fnExactTransposeOf", fn := fun _ => fun
  | [d] => { results := [.lit (.bool false)], args := [d] }
  | _ => none }
def FnExactTransposeOfWrongFalsely : Prop := fnExactTransposeOfRow.holds Try.pinned (OpenSpec.ofChange fnExactTransposeOfWrong)

/- THE SECOND FORM. 'bulk': how many values and letters a reading holds, each counted each time it is reached (what is shared counts as often as it is met; a slice's spare places count too). A statement '..UptoSaid' is the law's where the arguments, and the package variables that the reading takes, are together of bulk at most 1048576: NARROWER than '..Said'. Prove '..Said' where nothing that the law and all that it calls make is longer than what came in: it says more and counts as full. Else prove '..UptoSaid'. A law counts once. -/
mutual
def uptoBulk {H : Type} : DataW H → Nat
  | .lit (.string bytes) => bytes.length + 1
  | .lit _ => 1
  | .nil => 1
  | .ptr d => uptoBulk d + 1
  | .slice elems spare => uptoBulkAll elems + uptoBulkAll spare + 1
  | .agg parts => uptoBulkAll parts + 1
  | .iface _ d => uptoBulk d + 1
  | .map entries => uptoBulkEntries entries + 1
  | .held _ => 1
def uptoBulkAll {H : Type} : List (DataW H) → Nat
  | [] => 0
  | d :: r => uptoBulk d + uptoBulkAll r
def uptoBulkEntries {H : Type} : List (Lit × DataW H) → Nat
  | [] => 0
  | x :: r => uptoBulkEntry x + uptoBulkEntries r
def uptoBulkEntry {H : Type} : Lit × DataW H → Nat
  | (.string bytes, d) => bytes.length + uptoBulk d + 1
  | (_, d) => uptoBulk d + 1
 end
def uptoSmall : (H : Type) → List (DataW H) → Bool := fun _ ds => decide (uptoBulkAll ds ≤ 1048576)
def OpenSpec.upto (s : _root_.Go.ChangeSpec) : _root_.Go.OpenSpec := { _root_.Go.OpenSpec.ofChange s with cond := some uptoSmall }

/-- 'laws.FnDets', WHERE WHAT IT READS IS OF BULK AT MOST 1048576: true; the input reads as it did. -/
def fnDetsUptoRow : OpenClaim := { program := "ytaaajmdneaaeeaa", sum := "25eec8dad8803b0f65ccfccc47e0cd92aae3bcb9a489ce18331c8b72d28da05d", func := "loop.example/g00409/laws.FnDets", spec := "fnDets", unfollowed := true, recurses := true, apart := false, narrowed := true }
def FnDetsUptoSaid : Prop := fnDetsUptoRow.holds Try.pinned (OpenSpec.upto fnDetsSpec)

/-- 'laws.FnExactDetOf', WHERE WHAT IT READS IS OF BULK AT MOST 1048576: true; the input reads as it did. -/
def fnExactDetOfUptoRow : OpenClaim := { program := "ytaaajmdneaaeeaa", sum := "25eec8dad8803b0f65ccfccc47e0cd92aae3bcb9a489ce18331c8b72d28da05d", func := "loop.example/g00409/laws.FnExactDetOf", spec := "fnExactDetOf", unfollowed := true, recurses := true, apart := false, narrowed := true }
def FnExactDetOfUptoSaid : Prop := fnExactDetOfUptoRow.holds Try.pinned (OpenSpec.upto fnExactDetOfSpec)

/-- 'laws.FnExactDetByParts', WHERE WHAT IT READS IS OF BULK AT MOST 1048576: true; the input reads as it did. -/
def fnExactDetByPartsUptoRow : OpenClaim := { program := "ytaaajmdneaaeeaa", sum := "25eec8dad8803b0f65ccfccc47e0cd92aae3bcb9a489ce18331c8b72d28da05d", func := "loop.example/g00409/laws.FnExactDetByParts", spec := "fnExactDetByParts", unfollowed := true, recurses := true, apart := false, narrowed := true }
def FnExactDetByPartsUptoSaid : Prop := fnExactDetByPartsUptoRow.holds Try.pinned (OpenSpec.upto fnExactDetByPartsSpec)

/-- 'laws.FnExactSylvesterOf', WHERE WHAT IT READS IS OF BULK AT MOST 1048576: true; the input reads as it did. -/
def fnExactSylvesterOfUptoRow : OpenClaim := { program := "ytaaajmdneaaeeaa", sum := "25eec8dad8803b0f65ccfccc47e0cd92aae3bcb9a489ce18331c8b72d28da05d", func := "loop.example/g00409/laws.FnExactSylvesterOf", spec := "fnExactSylvesterOf", unfollowed := true, recurses := true, apart := false, narrowed := true }
def FnExactSylvesterOfUptoSaid : Prop := fnExactSylvesterOfUptoRow.holds Try.pinned (OpenSpec.upto fnExactSylvesterOfSpec)

/-- 'laws.FnExactResultantOf', WHERE WHAT IT READS IS OF BULK AT MOST 1048576: true; the input reads as it did. -/
def fnExactResultantOfUptoRow : OpenClaim := { program := "ytaaajmdneaaeeaa", sum := "25eec8dad8803b0f65ccfccc47e0cd92aae3bcb9a489ce18331c8b72d28da05d", func := "loop.example/g00409/laws.FnExactResultantOf", spec := "fnExactResultantOf", unfollowed := true, recurses := true, apart := false, narrowed := true }
def FnExactResultantOfUptoSaid : Prop := fnExactResultantOfUptoRow.holds Try.pinned (OpenSpec.upto fnExactResultantOfSpec)

/-- 'laws.FnExactDiscriminantOf', WHERE WHAT IT READS IS OF BULK AT MOST 1048576: true; the input reads as it did. -/
def fnExactDiscriminantOfUptoRow : OpenClaim := { program := "ytaaajmdneaaeeaa", sum := "25eec8dad8803b0f65ccfccc47e0cd92aae3bcb9a489ce18331c8b72d28da05d", func := "loop.example/g00409/laws.FnExactDiscriminantOf", spec := "fnExactDiscriminantOf", unfollowed := true, recurses := true, apart := false, narrowed := true }
def FnExactDiscriminantOfUptoSaid : Prop := fnExactDiscriminantOfUptoRow.holds Try.pinned (OpenSpec.upto fnExactDiscriminantOfSpec)

/-- 'laws.FnExactTransposeOf', WHERE WHAT IT READS IS OF BULK AT MOST 1048576: true; the input reads as it did. -/
def fnExactTransposeOfUptoRow : OpenClaim := { program := "ytaaajmdneaaeeaa", sum := "25eec8dad8803b0f65ccfccc47e0cd92aae3bcb9a489ce18331c8b72d28da05d", func := "loop.example/g00409/laws.FnExactTransposeOf", spec := "fnExactTransposeOf", unfollowed := true, recurses := true, apart := false, narrowed := true }
def FnExactTransposeOfUptoSaid : Prop := fnExactTransposeOfUptoRow.holds Try.pinned (OpenSpec.upto fnExactTransposeOfSpec)

end Rows
end Go.Proofs.Ytaaajmdneaaeeaa
