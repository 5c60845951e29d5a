/-
  DERIVED. GIVEN WITH THE SEED: THE CARDS: each row of YtoffondgdnmhkaaDoorRRRRows.lean that lists a variable, with what it lists TIED to the program's text (the seventh form; the later family's looks); each row that meets fmt, with fmt's text TOLD by the authors' own Lean function (tested against real Go, not proved from fmt's source: count such statements apart). THE CARD IS WHAT COUNTS. Prove the row's statement (the work); the ties are given (YtoffondgdnmhkaaDoorRRRTie.lean); close each card by the builder's one call (the guide's Derived/Test/ToyasCard.lean, 'card_holds'). Laid BY PROGRAM, IN A SANDBOX (cutbox-door.mjs). By AI agents, Wed Nov 11 2026. No macro, syntax, notation, axiom, sorry.
-/
import Derived.Test.YtoffondgdnmhkaaDoorRRRRows
import GoSem.ClaimSeven
namespace Go.Proofs.YtoffondgdnmhkaaDoorRRR
namespace Rows

/-- THE TIED CARD OF 'laws.FnExactNumberText'. -/
def fnExactNumberTextCard : Claim7 := { stood := { row := fnExactNumberTextRow, standIns := [], harness := (true, "9bc57052dfd07769c52906ebaa4608547d4db6b008afaf78d16de032a18daa12"), looks := false }, kinds := [], alts := [], laidByText := true, laidKinds := [.data, .data, .data], laidTests := true, laidLooks := .later }
def FnExactNumberTextCardSaid : Prop := Claim7.holds Tryd.pinned (.plain (OpenSpec.ofChange fnExactNumberTextSpec)) fnExactNumberTextCard

/-- THE TIED CARD OF 'laws.FnExactPrintPath'. -/
def fnExactPrintPathCard : Claim7 := { stood := { row := fnExactPrintPathRow, standIns := [], harness := (true, "9bc57052dfd07769c52906ebaa4608547d4db6b008afaf78d16de032a18daa12"), looks := false }, kinds := [], alts := [], laidByText := true, laidKinds := [.data, .data, .data], laidTests := true, laidLooks := .later }
def FnExactPrintPathCardSaid : Prop := Claim7.holds Tryd.pinned (.plain (OpenSpec.ofChange fnExactPrintPathSpec)) fnExactPrintPathCard

/-- THE SECOND FORM's CARD OF 'laws.FnExactNumberText'. -/
def fnExactNumberTextUptoCard : Claim7 := { stood := { row := fnExactNumberTextUptoRow, standIns := [], harness := (true, "9bc57052dfd07769c52906ebaa4608547d4db6b008afaf78d16de032a18daa12"), looks := false }, kinds := [], alts := [], laidByText := true, laidKinds := [.data, .data, .data], laidTests := true, laidLooks := .later }
def FnExactNumberTextUptoCardSaid : Prop := Claim7.holds Tryd.pinned (.plain (OpenSpec.upto fnExactNumberTextSpec)) fnExactNumberTextUptoCard

/-- THE SECOND FORM's CARD OF 'laws.FnExactPrintPath'. -/
def fnExactPrintPathUptoCard : Claim7 := { stood := { row := fnExactPrintPathUptoRow, standIns := [], harness := (true, "9bc57052dfd07769c52906ebaa4608547d4db6b008afaf78d16de032a18daa12"), looks := false }, kinds := [], alts := [], laidByText := true, laidKinds := [.data, .data, .data], laidTests := true, laidLooks := .later }
def FnExactPrintPathUptoCardSaid : Prop := Claim7.holds Tryd.pinned (.plain (OpenSpec.upto fnExactPrintPathSpec)) fnExactPrintPathUptoCard
end Rows
end Go.Proofs.YtoffondgdnmhkaaDoorRRR
