/-
  DERIVED. GIVEN WITH THE SEED: THE CARDS: each row of YtcgbpcipdanfhaaDoorRows.lean that lists a variable, with what it lists TIED to the program's text (the seventh form; the later family's looks); each row that meets fmt, with fmt's text TOLD by the authors' own Lean function (tested against real Go, not proved from fmt's source: count such statements apart). THE CARD IS WHAT COUNTS. Prove the row's statement (the work); the ties are given (YtcgbpcipdanfhaaDoorTie.lean); close each card by the builder's one call (the guide's Derived/Test/ToyasCard.lean, 'card_holds'). Laid BY PROGRAM, IN A SANDBOX (cutbox-door.mjs). By AI agents, Wed Nov 11 2026. No macro, syntax, notation, axiom, sorry.
-/
import Derived.Test.YtcgbpcipdanfhaaDoorRows
import GoSem.ClaimSeven
namespace Go.Proofs.YtcgbpcipdanfhaaDoor
namespace Rows

/-- THE TIED CARD OF 'laws.FnRuns'. -/
def fnRunsCard : Claim7 := { stood := { row := fnRunsRow, standIns := [], harness := (true, "e8715c4ca52dedcd4f0ab7e01c4b303d7d162d15990974a8c7a4038d9f22b183"), looks := false }, kinds := [], alts := [], laidByText := true, laidKinds := [.data, .data, .data, .data, .pinned], laidTests := true, laidLooks := .later }
def FnRunsCardSaid : Prop := Claim7.holds Tryd.pinned (.plain (OpenSpec.ofChange fnRunsSpec)) fnRunsCard

/-- THE TIED CARD OF 'laws.FnFiles'. -/
def fnFilesCard : Claim7 := { stood := { row := fnFilesRow, standIns := [], harness := (true, "e8715c4ca52dedcd4f0ab7e01c4b303d7d162d15990974a8c7a4038d9f22b183"), looks := false }, kinds := [], alts := [], laidByText := true, laidKinds := [.data, .data, .data], laidTests := true, laidLooks := .later }
def FnFilesCardSaid : Prop := Claim7.holds Tryd.pinned (.plain (OpenSpec.ofChange fnFilesSpec)) fnFilesCard

/-- THE TIED CARD OF 'laws.FnExactRunsText'. -/
def fnExactRunsTextCard : Claim7 := { stood := { row := fnExactRunsTextRow, standIns := [], harness := (true, "e8715c4ca52dedcd4f0ab7e01c4b303d7d162d15990974a8c7a4038d9f22b183"), looks := false }, kinds := [], alts := [], laidByText := true, laidKinds := [.data, .data, .data], laidTests := true, laidLooks := .later }
def FnExactRunsTextCardSaid : Prop := Claim7.holds Tryd.pinned (.plain (OpenSpec.ofChange fnExactRunsTextSpec)) fnExactRunsTextCard

/-- THE TIED CARD OF 'laws.FnExactReadRuns'. -/
def fnExactReadRunsCard : Claim7 := { stood := { row := fnExactReadRunsRow, standIns := [], harness := (true, "e8715c4ca52dedcd4f0ab7e01c4b303d7d162d15990974a8c7a4038d9f22b183"), looks := false }, kinds := [], alts := [], laidByText := true, laidKinds := [.data, .pinned], laidTests := true, laidLooks := .later }
def FnExactReadRunsCardSaid : Prop := Claim7.holds Tryd.pinned (.plain (OpenSpec.ofChange fnExactReadRunsSpec)) fnExactReadRunsCard

/-- THE TIED CARD OF 'laws.FnExactPictureBytes'. -/
def fnExactPictureBytesCard : Claim7 := { stood := { row := fnExactPictureBytesRow, standIns := [], harness := (true, "e8715c4ca52dedcd4f0ab7e01c4b303d7d162d15990974a8c7a4038d9f22b183"), looks := false }, kinds := [], alts := [], laidByText := true, laidKinds := [.data, .data, .data], laidTests := true, laidLooks := .later }
def FnExactPictureBytesCardSaid : Prop := Claim7.holds Tryd.pinned (.plain (OpenSpec.ofChange fnExactPictureBytesSpec)) fnExactPictureBytesCard

/-- THE SECOND FORM's CARD OF 'laws.FnRuns'. -/
def fnRunsUptoCard : Claim7 := { stood := { row := fnRunsUptoRow, standIns := [], harness := (true, "e8715c4ca52dedcd4f0ab7e01c4b303d7d162d15990974a8c7a4038d9f22b183"), looks := false }, kinds := [], alts := [], laidByText := true, laidKinds := [.data, .data, .data, .data, .pinned], laidTests := true, laidLooks := .later }
def FnRunsUptoCardSaid : Prop := Claim7.holds Tryd.pinned (.plain (OpenSpec.upto fnRunsSpec)) fnRunsUptoCard

/-- THE SECOND FORM's CARD OF 'laws.FnFiles'. -/
def fnFilesUptoCard : Claim7 := { stood := { row := fnFilesUptoRow, standIns := [], harness := (true, "e8715c4ca52dedcd4f0ab7e01c4b303d7d162d15990974a8c7a4038d9f22b183"), looks := false }, kinds := [], alts := [], laidByText := true, laidKinds := [.data, .data, .data], laidTests := true, laidLooks := .later }
def FnFilesUptoCardSaid : Prop := Claim7.holds Tryd.pinned (.plain (OpenSpec.upto fnFilesSpec)) fnFilesUptoCard

/-- THE SECOND FORM's CARD OF 'laws.FnExactRunsText'. -/
def fnExactRunsTextUptoCard : Claim7 := { stood := { row := fnExactRunsTextUptoRow, standIns := [], harness := (true, "e8715c4ca52dedcd4f0ab7e01c4b303d7d162d15990974a8c7a4038d9f22b183"), looks := false }, kinds := [], alts := [], laidByText := true, laidKinds := [.data, .data, .data], laidTests := true, laidLooks := .later }
def FnExactRunsTextUptoCardSaid : Prop := Claim7.holds Tryd.pinned (.plain (OpenSpec.upto fnExactRunsTextSpec)) fnExactRunsTextUptoCard

/-- THE SECOND FORM's CARD OF 'laws.FnExactReadRuns'. -/
def fnExactReadRunsUptoCard : Claim7 := { stood := { row := fnExactReadRunsUptoRow, standIns := [], harness := (true, "e8715c4ca52dedcd4f0ab7e01c4b303d7d162d15990974a8c7a4038d9f22b183"), looks := false }, kinds := [], alts := [], laidByText := true, laidKinds := [.data, .pinned], laidTests := true, laidLooks := .later }
def FnExactReadRunsUptoCardSaid : Prop := Claim7.holds Tryd.pinned (.plain (OpenSpec.upto fnExactReadRunsSpec)) fnExactReadRunsUptoCard

/-- THE SECOND FORM's CARD OF 'laws.FnExactPictureBytes'. -/
def fnExactPictureBytesUptoCard : Claim7 := { stood := { row := fnExactPictureBytesUptoRow, standIns := [], harness := (true, "e8715c4ca52dedcd4f0ab7e01c4b303d7d162d15990974a8c7a4038d9f22b183"), looks := false }, kinds := [], alts := [], laidByText := true, laidKinds := [.data, .data, .data], laidTests := true, laidLooks := .later }
def FnExactPictureBytesUptoCardSaid : Prop := Claim7.holds Tryd.pinned (.plain (OpenSpec.upto fnExactPictureBytesSpec)) fnExactPictureBytesUptoCard
end Rows
end Go.Proofs.YtcgbpcipdanfhaaDoor
