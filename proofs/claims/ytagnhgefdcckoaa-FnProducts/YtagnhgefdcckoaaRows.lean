/-
  No cell of these rows narrows 'for every input' (looked for: loops, veiled, ifaces, maps, wideKeys, modest, calm, conditions, laid).
  DERIVED. THE GIVEN ROWS OF THIS SEAT. 4 by the template 'for every input the law returns true; each argument reads behind the call as it read before'; 0 by the template 'total and deterministic' (their statements: YtagnhgefdcckoaaTotals.lean).
  GIVEN WITH THE SEED: the statements are not yours to turn. If you find one false, say at which input.
  Laid BY PROGRAM, IN A SANDBOX (cutbox-rows.mjs): the forced cells as the released guide's own fill.sh prints them over the translation c7d9dde215a97dc0… (all of the seat's roots in one cut). By AI agents, Wed Nov 11 2026. No macro, syntax, notation, axiom, sorry.
-/
import Derived.Test.YtagnhgefdcckoaaChecked
import GoSem.Claim
import GoSem.ClaimJoined
import GoSem.ClaimMapViews
import Derived.JoinedTies
import Derived.KernelRfl
namespace Go.Proofs.Ytagnhgefdcckoaa
/- THE CELL 'sum', in the pinned program and in every row, IS THE sha256 OF THE DUMP (.gsa) THAT YtagnhgefdcckoaaProg.lean LOADS. Nothing in Lean hashes anything: it is a label: what it is worth is what the hold of that sum in a sandbox is worth. -/
noncomputable def Try.pinned : Pinned := { name := "ytagnhgefdcckoaa", sum := "c7d9dde215a97dc0abf369ff13218dec79c03366cb7cc03d7970261b753cef3c", checked := Try.checked }
namespace Rows
def none {H : Type} : Left H := { results := [], args := [] }

/-- 'laws.FnProducts': WHATEVER THE INPUT: true; the input reads as it did. -/
def fnProductsSpec : ChangeSpec := { name := "fnProducts", fn := fun _ => fun
  | [d1, d2] => { results := [.lit (.bool true)], args := [d1, d2] }
  | _ => none }
def fnProductsRow : OpenClaim := { program := "ytagnhgefdcckoaa", sum := "c7d9dde215a97dc0abf369ff13218dec79c03366cb7cc03d7970261b753cef3c", func := "loop.example/g00409/laws.FnProducts", spec := "fnProducts", recurses := true, apart := false }
def FnProductsSaid : Prop := fnProductsRow.holds Try.pinned (OpenSpec.ofChange fnProductsSpec)

/-- ITS FALSE NEIGHBOUR: 'it returns false'. Refute it at one input. -/
def fnProductsWrong : ChangeSpec := { name := "fnProducts", fn := fun _ => fun
  | [d1, d2] => { results := [.lit (.bool false)], args := [d1, d2] }
  | _ => none }
def FnProductsWrongFalsely : Prop := fnProductsRow.holds Try.pinned (OpenSpec.ofChange fnProductsWrong)

/-- 'laws.FnExactReadBig': WHATEVER THE INPUT: true; the input reads as it did. -/
def fnExactReadBigSpec : ChangeSpec := { name := "fnExactReadBig", fn := fun _ => fun
  | [d] => { results := [.lit (.bool true)], args := [d] }
  | _ => none }
def fnExactReadBigRow : OpenClaim := { program := "ytagnhgefdcckoaa", sum := "c7d9dde215a97dc0abf369ff13218dec79c03366cb7cc03d7970261b753cef3c", func := "loop.example/g00409/laws.FnExactReadBig", spec := "fnExactReadBig", recurses := true, apart := false }
def FnExactReadBigSaid : Prop := fnExactReadBigRow.holds Try.pinned (OpenSpec.ofChange fnExactReadBigSpec)

/-- ITS FALSE NEIGHBOUR: 'it returns false'. Refute it at one input. -/
def fnExactReadBigWrong : ChangeSpec := { name := "fnExactReadBig", fn := fun _ => fun
  | [d] => { results := [.lit (.bool false)], args := [d] }
  | _ => none }
def FnExactReadBigWrongFalsely : Prop := fnExactReadBigRow.holds Try.pinned (OpenSpec.ofChange fnExactReadBigWrong)

/-- 'laws.FnExactTermsOf': WHATEVER THE INPUT: true; the input reads as it did. -/
def fnExactTermsOfSpec : ChangeSpec := { name := "fnExactTermsOf", fn := fun _ => fun
  | [d] => { results := [.lit (.bool true)], args := [d] }
  | _ => none }
def fnExactTermsOfRow : OpenClaim := { program := "ytagnhgefdcckoaa", sum := "c7d9dde215a97dc0abf369ff13218dec79c03366cb7cc03d7970261b753cef3c", func := "loop.example/g00409/laws.FnExactTermsOf", spec := "fnExactTermsOf", unfollowed := true, recurses := true, apart := false }
def FnExactTermsOfSaid : Prop := fnExactTermsOfRow.holds Try.pinned (OpenSpec.ofChange fnExactTermsOfSpec)

/-- ITS FALSE NEIGHBOUR: 'it returns false'. Refute it at one input. -/
def fnExactTermsOfWrong : ChangeSpec := { name := "fnExactTermsOf", fn := fun _ => fun
  | [d] => { results := [.lit (.bool false)], args := [d] }
  | _ => none }
def FnExactTermsOfWrongFalsely : Prop := fnExactTermsOfRow.holds Try.pinned (OpenSpec.ofChange fnExactTermsOfWrong)

/-- 'laws.FnExactSquareSpan': WHATEVER THE INPUT: true; the input reads as it did. -/
def fnExactSquareSpanSpec : ChangeSpec := { name := "fnExactSquareSpan", fn := fun _ => fun
  | [d] => { results := [.lit (.bool true)], args := [d] }
  | _ => none }
def fnExactSquareSpanRow : OpenClaim := { program := "ytagnhgefdcckoaa", sum := "c7d9dde215a97dc0abf369ff13218dec79c03366cb7cc03d7970261b753cef3c", func := "loop.example/g00409/laws.FnExactSquareSpan", spec := "fnExactSquareSpan", unfollowed := true, recurses := true, apart := false }
def FnExactSquareSpanSaid : Prop := fnExactSquareSpanRow.holds Try.pinned (OpenSpec.ofChange fnExactSquareSpanSpec)

/-- ITS FALSE NEIGHBOUR: 'it returns false'. Refute it at one input. -/
def fnExactSquareSpanWrong : ChangeSpec := { name := "fnExactSquareSpan", fn := fun _ => fun
  | [d] => { results := [.lit (.bool false)], args := [d] }
  | _ => none }
def FnExactSquareSpanWrongFalsely : Prop := fnExactSquareSpanRow.holds Try.pinned (OpenSpec.ofChange fnExactSquareSpanWrong)

/- THE SECOND FORM. 'bulk': how many values and letters a reading holds, each counted each time it is reached (what is shared counts as often as it is met; a slice's spare places count too). A statement '..UptoSaid' is the law's where the arguments, and the package variables that the reading takes, are together of bulk at most 1048576: NARROWER than '..Said'. Prove '..Said' where nothing that the law and all that it calls make is longer than what came in: it says more and counts as full. Else prove '..UptoSaid'. A law counts once. -/
mutual
def uptoBulk {H : Type} : DataW H → Nat
  | .lit (.string bytes) => bytes.length + 1
  | .lit _ => 1
  | .nil => 1
  | .ptr d => uptoBulk d + 1
  | .slice elems spare => uptoBulkAll elems + uptoBulkAll spare + 1
  | .agg parts => uptoBulkAll parts + 1
  | .iface _ d => uptoBulk d + 1
  | .map entries => uptoBulkEntries entries + 1
  | .held _ => 1
def uptoBulkAll {H : Type} : List (DataW H) → Nat
  | [] => 0
  | d :: r => uptoBulk d + uptoBulkAll r
def uptoBulkEntries {H : Type} : List (Lit × DataW H) → Nat
  | [] => 0
  | x :: r => uptoBulkEntry x + uptoBulkEntries r
def uptoBulkEntry {H : Type} : Lit × DataW H → Nat
  | (.string bytes, d) => bytes.length + uptoBulk d + 1
  | (_, d) => uptoBulk d + 1
 end
def uptoSmall : (H : Type) → List (DataW H) → Bool := fun _ ds => decide (uptoBulkAll ds ≤ 1048576)
def OpenSpec.upto (s : _root_.Go.ChangeSpec) : _root_.Go.OpenSpec := { _root_.Go.OpenSpec.ofChange s with cond := some uptoSmall }

/-- 'laws.FnProducts', WHERE WHAT IT READS IS OF BULK AT MOST 1048576: true; the input reads as it did. -/
def fnProductsUptoRow : OpenClaim := { program := "ytagnhgefdcckoaa", sum := "c7d9dde215a97dc0abf369ff13218dec79c03366cb7cc03d7970261b753cef3c", func := "loop.example/g00409/laws.FnProducts", spec := "fnProducts", recurses := true, apart := false, narrowed := true }
def FnProductsUptoSaid : Prop := fnProductsUptoRow.holds Try.pinned (OpenSpec.upto fnProductsSpec)

/-- 'laws.FnExactReadBig', WHERE WHAT IT READS IS OF BULK AT MOST 1048576: true; the input reads as it did. -/
def fnExactReadBigUptoRow : OpenClaim := { program := "ytagnhgefdcckoaa", sum := "c7d9dde215a97dc0abf369ff13218dec79c03366cb7cc03d7970261b753cef3c", func := "loop.example/g00409/laws.FnExactReadBig", spec := "fnExactReadBig", recurses := true, apart := false, narrowed := true }
def FnExactReadBigUptoSaid : Prop := fnExactReadBigUptoRow.holds Try.pinned (OpenSpec.upto fnExactReadBigSpec)

/-- 'laws.FnExactTermsOf', WHERE WHAT IT READS IS OF BULK AT MOST 1048576: true; the input reads as it did. -/
def fnExactTermsOfUptoRow : OpenClaim := { program := "ytagnhgefdcckoaa", sum := "c7d9dde215a97dc0abf369ff13218dec79c03366cb7cc03d7970261b753cef3c", func := "loop.example/g00409/laws.FnExactTermsOf", spec := "fnExactTermsOf", unfollowed := true, recurses := true, apart := false, narrowed := true }
def FnExactTermsOfUptoSaid : Prop := fnExactTermsOfUptoRow.holds Try.pinned (OpenSpec.upto fnExactTermsOfSpec)

/-- 'laws.FnExactSquareSpan', WHERE WHAT IT READS IS OF BULK AT MOST 1048576: true; the input reads as it did. -/
def fnExactSquareSpanUptoRow : OpenClaim := { program := "ytagnhgefdcckoaa", sum := "c7d9dde215a97dc0abf369ff13218dec79c03366cb7cc03d7970261b753cef3c", func := "loop.example/g00409/laws.FnExactSquareSpan", spec := "fnExactSquareSpan", unfollowed := true, recurses := true, apart := false, narrowed := true }
def FnExactSquareSpanUptoSaid : Prop := fnExactSquareSpanUptoRow.holds Try.pinned (OpenSpec.upto fnExactSquareSpanSpec)

end Rows
end Go.Proofs.Ytagnhgefdcckoaa
