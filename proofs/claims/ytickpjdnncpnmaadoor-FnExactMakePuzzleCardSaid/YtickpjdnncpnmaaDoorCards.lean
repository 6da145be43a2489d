/-
  DERIVED. GIVEN WITH THE SEED: THE CARDS: each row of YtickpjdnncpnmaaDoorRows.lean that lists a variable, with what it lists TIED to the program's text (the seventh form; the later family's looks); each row that meets fmt, with fmt's text TOLD by the authors' own Lean function (tested against real Go, not proved from fmt's source: count such statements apart). THE CARD IS WHAT COUNTS. Prove the row's statement (the work); the ties are given (YtickpjdnncpnmaaDoorTie.lean); close each card by the builder's one call (the guide's Derived/Test/ToyasCard.lean, 'card_holds'). Laid BY PROGRAM, IN A SANDBOX (cutbox-door.mjs). By AI agents, Wed Nov 11 2026. No macro, syntax, notation, axiom, sorry.
-/
import Derived.Test.YtickpjdnncpnmaaDoorRows
import GoSem.ClaimSeven
namespace Go.Proofs.YtickpjdnncpnmaaDoor
namespace Rows

/-- THE TIED CARD OF 'laws.FnExactSolutions'. -/
def fnExactSolutionsCard : Claim7 := { stood := { row := fnExactSolutionsRow, standIns := [], harness := (true, "a7d82d51fa9afba165e66a6b027d3aae5a6f058ea1dbc22daa7e78e8087137b0"), looks := true }, kinds := [], alts := [], laidByText := true, laidKinds := [.data, .data, .data], laidTests := true, laidLooks := .later }
def FnExactSolutionsCardSaid : Prop := Claim7.holds Tryd.pinned (.plain (OpenSpec.ofChange fnExactSolutionsSpec)) fnExactSolutionsCard

/-- THE TIED CARD OF 'laws.FnExactSureCells'. -/
def fnExactSureCellsCard : Claim7 := { stood := { row := fnExactSureCellsRow, standIns := [], harness := (true, "a7d82d51fa9afba165e66a6b027d3aae5a6f058ea1dbc22daa7e78e8087137b0"), looks := true }, kinds := [], alts := [], laidByText := true, laidKinds := [.data, .data, .data], laidTests := true, laidLooks := .later }
def FnExactSureCellsCardSaid : Prop := Claim7.holds Tryd.pinned (.plain (OpenSpec.ofChange fnExactSureCellsSpec)) fnExactSureCellsCard

/-- THE TIED CARD OF 'laws.FnExactNeedlessClues'. -/
def fnExactNeedlessCluesCard : Claim7 := { stood := { row := fnExactNeedlessCluesRow, standIns := [], harness := (true, "a7d82d51fa9afba165e66a6b027d3aae5a6f058ea1dbc22daa7e78e8087137b0"), looks := true }, kinds := [], alts := [], laidByText := true, laidKinds := [.data, .data, .data], laidTests := true, laidLooks := .later }
def FnExactNeedlessCluesCardSaid : Prop := Claim7.holds Tryd.pinned (.plain (OpenSpec.ofChange fnExactNeedlessCluesSpec)) fnExactNeedlessCluesCard

/-- THE TIED CARD OF 'laws.FnExactLeftByClues'. -/
def fnExactLeftByCluesCard : Claim7 := { stood := { row := fnExactLeftByCluesRow, standIns := [], harness := (true, "a7d82d51fa9afba165e66a6b027d3aae5a6f058ea1dbc22daa7e78e8087137b0"), looks := true }, kinds := [], alts := [], laidByText := true, laidKinds := [.data, .data, .data], laidTests := true, laidLooks := .later }
def FnExactLeftByCluesCardSaid : Prop := Claim7.holds Tryd.pinned (.plain (OpenSpec.ofChange fnExactLeftByCluesSpec)) fnExactLeftByCluesCard

/-- THE TIED CARD OF 'laws.FnExactBestClue'. -/
def fnExactBestClueCard : Claim7 := { stood := { row := fnExactBestClueRow, standIns := [], harness := (true, "a7d82d51fa9afba165e66a6b027d3aae5a6f058ea1dbc22daa7e78e8087137b0"), looks := true }, kinds := [], alts := [], laidByText := true, laidKinds := [.data, .data, .data], laidTests := true, laidLooks := .later }
def FnExactBestClueCardSaid : Prop := Claim7.holds Tryd.pinned (.plain (OpenSpec.ofChange fnExactBestClueSpec)) fnExactBestClueCard

/-- THE TIED CARD OF 'laws.FnExactHarderPuzzle'. -/
def fnExactHarderPuzzleCard : Claim7 := { stood := { row := fnExactHarderPuzzleRow, standIns := [], harness := (true, "a7d82d51fa9afba165e66a6b027d3aae5a6f058ea1dbc22daa7e78e8087137b0"), looks := true }, kinds := [], alts := [], laidByText := true, laidKinds := [.data, .data, .data], laidTests := true, laidLooks := .later }
def FnExactHarderPuzzleCardSaid : Prop := Claim7.holds Tryd.pinned (.plain (OpenSpec.ofChange fnExactHarderPuzzleSpec)) fnExactHarderPuzzleCard

/-- THE TIED CARD OF 'laws.FnExactMakePuzzle'. -/
def fnExactMakePuzzleCard : Claim7 := { stood := { row := fnExactMakePuzzleRow, standIns := [], harness := (true, "a7d82d51fa9afba165e66a6b027d3aae5a6f058ea1dbc22daa7e78e8087137b0"), looks := true }, kinds := [], alts := [], laidByText := true, laidKinds := [.data, .data, .data], laidTests := true, laidLooks := .later }
def FnExactMakePuzzleCardSaid : Prop := Claim7.holds Tryd.pinned (.plain (OpenSpec.ofChange fnExactMakePuzzleSpec)) fnExactMakePuzzleCard

/-- THE TIED CARD OF 'laws.FnExactPuzzleText'. -/
def fnExactPuzzleTextCard : Claim7 := { stood := { row := fnExactPuzzleTextRow, standIns := [], harness := (true, "a7d82d51fa9afba165e66a6b027d3aae5a6f058ea1dbc22daa7e78e8087137b0"), looks := true }, kinds := [], alts := [], laidByText := true, laidKinds := [.data, .data, .data], laidTests := true, laidLooks := .later }
def FnExactPuzzleTextCardSaid : Prop := Claim7.holds Tryd.pinned (.plain (OpenSpec.ofChange fnExactPuzzleTextSpec)) fnExactPuzzleTextCard

/-- THE TIED CARD OF 'laws.FnExactParsePuzzle'. -/
def fnExactParsePuzzleCard : Claim7 := { stood := { row := fnExactParsePuzzleRow, standIns := [], harness := (true, "a7d82d51fa9afba165e66a6b027d3aae5a6f058ea1dbc22daa7e78e8087137b0"), looks := true }, kinds := [], alts := [], laidByText := true, laidKinds := [.data, .data, .data, .data, .sentinel, .sentinel, .pinned], laidTests := true, laidLooks := .later }
def FnExactParsePuzzleCardSaid : Prop := Claim7.holds Tryd.pinned (.plain (OpenSpec.ofChange fnExactParsePuzzleSpec)) fnExactParsePuzzleCard

/-- THE SECOND FORM's CARD OF 'laws.FnExactSolutions'. -/
def fnExactSolutionsUptoCard : Claim7 := { stood := { row := fnExactSolutionsUptoRow, standIns := [], harness := (true, "a7d82d51fa9afba165e66a6b027d3aae5a6f058ea1dbc22daa7e78e8087137b0"), looks := true }, kinds := [], alts := [], laidByText := true, laidKinds := [.data, .data, .data], laidTests := true, laidLooks := .later }
def FnExactSolutionsUptoCardSaid : Prop := Claim7.holds Tryd.pinned (.plain (OpenSpec.upto fnExactSolutionsSpec)) fnExactSolutionsUptoCard

/-- THE SECOND FORM's CARD OF 'laws.FnExactSureCells'. -/
def fnExactSureCellsUptoCard : Claim7 := { stood := { row := fnExactSureCellsUptoRow, standIns := [], harness := (true, "a7d82d51fa9afba165e66a6b027d3aae5a6f058ea1dbc22daa7e78e8087137b0"), looks := true }, kinds := [], alts := [], laidByText := true, laidKinds := [.data, .data, .data], laidTests := true, laidLooks := .later }
def FnExactSureCellsUptoCardSaid : Prop := Claim7.holds Tryd.pinned (.plain (OpenSpec.upto fnExactSureCellsSpec)) fnExactSureCellsUptoCard

/-- THE SECOND FORM's CARD OF 'laws.FnExactNeedlessClues'. -/
def fnExactNeedlessCluesUptoCard : Claim7 := { stood := { row := fnExactNeedlessCluesUptoRow, standIns := [], harness := (true, "a7d82d51fa9afba165e66a6b027d3aae5a6f058ea1dbc22daa7e78e8087137b0"), looks := true }, kinds := [], alts := [], laidByText := true, laidKinds := [.data, .data, .data], laidTests := true, laidLooks := .later }
def FnExactNeedlessCluesUptoCardSaid : Prop := Claim7.holds Tryd.pinned (.plain (OpenSpec.upto fnExactNeedlessCluesSpec)) fnExactNeedlessCluesUptoCard

/-- THE SECOND FORM's CARD OF 'laws.FnExactLeftByClues'. -/
def fnExactLeftByCluesUptoCard : Claim7 := { stood := { row := fnExactLeftByCluesUptoRow, standIns := [], harness := (true, "a7d82d51fa9afba165e66a6b027d3aae5a6f058ea1dbc22daa7e78e8087137b0"), looks := true }, kinds := [], alts := [], laidByText := true, laidKinds := [.data, .data, .data], laidTests := true, laidLooks := .later }
def FnExactLeftByCluesUptoCardSaid : Prop := Claim7.holds Tryd.pinned (.plain (OpenSpec.upto fnExactLeftByCluesSpec)) fnExactLeftByCluesUptoCard

/-- THE SECOND FORM's CARD OF 'laws.FnExactBestClue'. -/
def fnExactBestClueUptoCard : Claim7 := { stood := { row := fnExactBestClueUptoRow, standIns := [], harness := (true, "a7d82d51fa9afba165e66a6b027d3aae5a6f058ea1dbc22daa7e78e8087137b0"), looks := true }, kinds := [], alts := [], laidByText := true, laidKinds := [.data, .data, .data], laidTests := true, laidLooks := .later }
def FnExactBestClueUptoCardSaid : Prop := Claim7.holds Tryd.pinned (.plain (OpenSpec.upto fnExactBestClueSpec)) fnExactBestClueUptoCard

/-- THE SECOND FORM's CARD OF 'laws.FnExactHarderPuzzle'. -/
def fnExactHarderPuzzleUptoCard : Claim7 := { stood := { row := fnExactHarderPuzzleUptoRow, standIns := [], harness := (true, "a7d82d51fa9afba165e66a6b027d3aae5a6f058ea1dbc22daa7e78e8087137b0"), looks := true }, kinds := [], alts := [], laidByText := true, laidKinds := [.data, .data, .data], laidTests := true, laidLooks := .later }
def FnExactHarderPuzzleUptoCardSaid : Prop := Claim7.holds Tryd.pinned (.plain (OpenSpec.upto fnExactHarderPuzzleSpec)) fnExactHarderPuzzleUptoCard

/-- THE SECOND FORM's CARD OF 'laws.FnExactMakePuzzle'. -/
def fnExactMakePuzzleUptoCard : Claim7 := { stood := { row := fnExactMakePuzzleUptoRow, standIns := [], harness := (true, "a7d82d51fa9afba165e66a6b027d3aae5a6f058ea1dbc22daa7e78e8087137b0"), looks := true }, kinds := [], alts := [], laidByText := true, laidKinds := [.data, .data, .data], laidTests := true, laidLooks := .later }
def FnExactMakePuzzleUptoCardSaid : Prop := Claim7.holds Tryd.pinned (.plain (OpenSpec.upto fnExactMakePuzzleSpec)) fnExactMakePuzzleUptoCard

/-- THE SECOND FORM's CARD OF 'laws.FnExactPuzzleText'. -/
def fnExactPuzzleTextUptoCard : Claim7 := { stood := { row := fnExactPuzzleTextUptoRow, standIns := [], harness := (true, "a7d82d51fa9afba165e66a6b027d3aae5a6f058ea1dbc22daa7e78e8087137b0"), looks := true }, kinds := [], alts := [], laidByText := true, laidKinds := [.data, .data, .data], laidTests := true, laidLooks := .later }
def FnExactPuzzleTextUptoCardSaid : Prop := Claim7.holds Tryd.pinned (.plain (OpenSpec.upto fnExactPuzzleTextSpec)) fnExactPuzzleTextUptoCard

/-- THE SECOND FORM's CARD OF 'laws.FnExactParsePuzzle'. -/
def fnExactParsePuzzleUptoCard : Claim7 := { stood := { row := fnExactParsePuzzleUptoRow, standIns := [], harness := (true, "a7d82d51fa9afba165e66a6b027d3aae5a6f058ea1dbc22daa7e78e8087137b0"), looks := true }, kinds := [], alts := [], laidByText := true, laidKinds := [.data, .data, .data, .data, .sentinel, .sentinel, .pinned], laidTests := true, laidLooks := .later }
def FnExactParsePuzzleUptoCardSaid : Prop := Claim7.holds Tryd.pinned (.plain (OpenSpec.upto fnExactParsePuzzleSpec)) fnExactParsePuzzleUptoCard
end Rows
end Go.Proofs.YtickpjdnncpnmaaDoor
