/-
  DERIVED. GIVEN WITH THE SEED: THE CARDS: each row of YtpkokghbkamelaaDoorRows.lean that lists a variable, with what it lists TIED to the program's text (the seventh form; the later family's looks); each row that meets fmt, with fmt's text TOLD by the authors' own Lean function (tested against real Go, not proved from fmt's source: count such statements apart). THE CARD IS WHAT COUNTS. Prove the row's statement (the work); the ties are given (YtpkokghbkamelaaDoorTie.lean); close each card by the builder's one call (the guide's Derived/Test/ToyasCard.lean, 'card_holds'). Laid BY PROGRAM, IN A SANDBOX (cutbox-door.mjs). By AI agents, Wed Nov 11 2026. No macro, syntax, notation, axiom, sorry.
-/
import Derived.Test.YtpkokghbkamelaaDoorRows
import GoSem.ClaimSeven
namespace Go.Proofs.YtpkokghbkamelaaDoor
namespace Rows

/-- THE TIED CARD OF 'laws.FnExactIsScene'. -/
def fnExactIsSceneCard : Claim7 := { stood := { row := fnExactIsSceneRow, standIns := [], harness := (true, "fec946aae93def73cbcd236e14635b3cd31dbbf27d460462e4bcd3fb444f1871"), looks := true }, kinds := [], alts := [], laidByText := true, laidKinds := [.data], laidTests := true, laidLooks := .later }
def FnExactIsSceneCardSaid : Prop := Claim7.holds Tryd.pinned (.plain (OpenSpec.ofChange fnExactIsSceneSpec)) fnExactIsSceneCard

/-- THE TIED CARD OF 'laws.FnExactStepScene'. -/
def fnExactStepSceneCard : Claim7 := { stood := { row := fnExactStepSceneRow, standIns := [], harness := (true, "fec946aae93def73cbcd236e14635b3cd31dbbf27d460462e4bcd3fb444f1871"), looks := true }, kinds := [], alts := [], laidByText := true, laidKinds := [.data, .data, .data, .data], laidTests := true, laidLooks := .later }
def FnExactStepSceneCardSaid : Prop := Claim7.holds Tryd.pinned (.plain (OpenSpec.ofChange fnExactStepSceneSpec)) fnExactStepSceneCard

/-- THE TIED CARD OF 'laws.FnExactSceneAfter'. -/
def fnExactSceneAfterCard : Claim7 := { stood := { row := fnExactSceneAfterRow, standIns := [], harness := (true, "fec946aae93def73cbcd236e14635b3cd31dbbf27d460462e4bcd3fb444f1871"), looks := true }, kinds := [], alts := [], laidByText := true, laidKinds := [.data, .data, .data, .data], laidTests := true, laidLooks := .later }
def FnExactSceneAfterCardSaid : Prop := Claim7.holds Tryd.pinned (.plain (OpenSpec.ofChange fnExactSceneAfterSpec)) fnExactSceneAfterCard

/-- THE TIED CARD OF 'laws.FnExactUndoScene'. -/
def fnExactUndoSceneCard : Claim7 := { stood := { row := fnExactUndoSceneRow, standIns := [], harness := (true, "fec946aae93def73cbcd236e14635b3cd31dbbf27d460462e4bcd3fb444f1871"), looks := true }, kinds := [], alts := [], laidByText := true, laidKinds := [.data, .data, .data, .data], laidTests := true, laidLooks := .later }
def FnExactUndoSceneCardSaid : Prop := Claim7.holds Tryd.pinned (.plain (OpenSpec.ofChange fnExactUndoSceneSpec)) fnExactUndoSceneCard

/-- THE TIED CARD OF 'laws.FnExactLoopOfScene'. -/
def fnExactLoopOfSceneCard : Claim7 := { stood := { row := fnExactLoopOfSceneRow, standIns := [], harness := (true, "fec946aae93def73cbcd236e14635b3cd31dbbf27d460462e4bcd3fb444f1871"), looks := true }, kinds := [], alts := [], laidByText := true, laidKinds := [.data, .data, .data, .data], laidTests := true, laidLooks := .later }
def FnExactLoopOfSceneCardSaid : Prop := Claim7.holds Tryd.pinned (.plain (OpenSpec.ofChange fnExactLoopOfSceneSpec)) fnExactLoopOfSceneCard

/-- THE TIED CARD OF 'laws.FnExactPaintedAfter'. -/
def fnExactPaintedAfterCard : Claim7 := { stood := { row := fnExactPaintedAfterRow, standIns := [], harness := (true, "fec946aae93def73cbcd236e14635b3cd31dbbf27d460462e4bcd3fb444f1871"), looks := true }, kinds := [], alts := [], laidByText := true, laidKinds := [.data, .data, .data, .data], laidTests := true, laidLooks := .later }
def FnExactPaintedAfterCardSaid : Prop := Claim7.holds Tryd.pinned (.plain (OpenSpec.ofChange fnExactPaintedAfterSpec)) fnExactPaintedAfterCard

/-- THE TIED CARD OF 'laws.FnExactStatesReached'. -/
def fnExactStatesReachedCard : Claim7 := { stood := { row := fnExactStatesReachedRow, standIns := [], harness := (true, "fec946aae93def73cbcd236e14635b3cd31dbbf27d460462e4bcd3fb444f1871"), looks := true }, kinds := [], alts := [], laidByText := true, laidKinds := [.data], laidTests := true, laidLooks := .later }
def FnExactStatesReachedCardSaid : Prop := Claim7.holds Tryd.pinned (.plain (OpenSpec.ofChange fnExactStatesReachedSpec)) fnExactStatesReachedCard

/-- THE TIED CARD OF 'laws.FnExactParseTable'. -/
def fnExactParseTableCard : Claim7 := { stood := { row := fnExactParseTableRow, standIns := [], harness := (true, "fec946aae93def73cbcd236e14635b3cd31dbbf27d460462e4bcd3fb444f1871"), looks := true }, kinds := [], alts := [], laidByText := true, laidKinds := [.data, .data, .data, .data], laidTests := true, laidLooks := .later }
def FnExactParseTableCardSaid : Prop := Claim7.holds Tryd.pinned (.plain (OpenSpec.ofChange fnExactParseTableSpec)) fnExactParseTableCard

/-- THE TIED CARD OF 'laws.FnExactPuzzleText'. -/
def fnExactPuzzleTextCard : Claim7 := { stood := { row := fnExactPuzzleTextRow, standIns := [], harness := (true, "fec946aae93def73cbcd236e14635b3cd31dbbf27d460462e4bcd3fb444f1871"), looks := true }, kinds := [], alts := [], laidByText := true, laidKinds := [.data, .data, .data], laidTests := true, laidLooks := .later }
def FnExactPuzzleTextCardSaid : Prop := Claim7.holds Tryd.pinned (.plain (OpenSpec.ofChange fnExactPuzzleTextSpec)) fnExactPuzzleTextCard

/-- THE TIED CARD OF 'laws.FnExactParsePuzzle'. -/
def fnExactParsePuzzleCard : Claim7 := { stood := { row := fnExactParsePuzzleRow, standIns := [], harness := (true, "fec946aae93def73cbcd236e14635b3cd31dbbf27d460462e4bcd3fb444f1871"), looks := true }, kinds := [], alts := [], laidByText := true, laidKinds := [.data, .data, .data, .data, .sentinel, .sentinel, .pinned], laidTests := true, laidLooks := .later }
def FnExactParsePuzzleCardSaid : Prop := Claim7.holds Tryd.pinned (.plain (OpenSpec.ofChange fnExactParsePuzzleSpec)) fnExactParsePuzzleCard

/-- THE SECOND FORM's CARD OF 'laws.FnExactIsScene'. -/
def fnExactIsSceneUptoCard : Claim7 := { stood := { row := fnExactIsSceneUptoRow, standIns := [], harness := (true, "fec946aae93def73cbcd236e14635b3cd31dbbf27d460462e4bcd3fb444f1871"), looks := true }, kinds := [], alts := [], laidByText := true, laidKinds := [.data], laidTests := true, laidLooks := .later }
def FnExactIsSceneUptoCardSaid : Prop := Claim7.holds Tryd.pinned (.plain (OpenSpec.upto fnExactIsSceneSpec)) fnExactIsSceneUptoCard

/-- THE SECOND FORM's CARD OF 'laws.FnExactStepScene'. -/
def fnExactStepSceneUptoCard : Claim7 := { stood := { row := fnExactStepSceneUptoRow, standIns := [], harness := (true, "fec946aae93def73cbcd236e14635b3cd31dbbf27d460462e4bcd3fb444f1871"), looks := true }, kinds := [], alts := [], laidByText := true, laidKinds := [.data, .data, .data, .data], laidTests := true, laidLooks := .later }
def FnExactStepSceneUptoCardSaid : Prop := Claim7.holds Tryd.pinned (.plain (OpenSpec.upto fnExactStepSceneSpec)) fnExactStepSceneUptoCard

/-- THE SECOND FORM's CARD OF 'laws.FnExactSceneAfter'. -/
def fnExactSceneAfterUptoCard : Claim7 := { stood := { row := fnExactSceneAfterUptoRow, standIns := [], harness := (true, "fec946aae93def73cbcd236e14635b3cd31dbbf27d460462e4bcd3fb444f1871"), looks := true }, kinds := [], alts := [], laidByText := true, laidKinds := [.data, .data, .data, .data], laidTests := true, laidLooks := .later }
def FnExactSceneAfterUptoCardSaid : Prop := Claim7.holds Tryd.pinned (.plain (OpenSpec.upto fnExactSceneAfterSpec)) fnExactSceneAfterUptoCard

/-- THE SECOND FORM's CARD OF 'laws.FnExactUndoScene'. -/
def fnExactUndoSceneUptoCard : Claim7 := { stood := { row := fnExactUndoSceneUptoRow, standIns := [], harness := (true, "fec946aae93def73cbcd236e14635b3cd31dbbf27d460462e4bcd3fb444f1871"), looks := true }, kinds := [], alts := [], laidByText := true, laidKinds := [.data, .data, .data, .data], laidTests := true, laidLooks := .later }
def FnExactUndoSceneUptoCardSaid : Prop := Claim7.holds Tryd.pinned (.plain (OpenSpec.upto fnExactUndoSceneSpec)) fnExactUndoSceneUptoCard

/-- THE SECOND FORM's CARD OF 'laws.FnExactLoopOfScene'. -/
def fnExactLoopOfSceneUptoCard : Claim7 := { stood := { row := fnExactLoopOfSceneUptoRow, standIns := [], harness := (true, "fec946aae93def73cbcd236e14635b3cd31dbbf27d460462e4bcd3fb444f1871"), looks := true }, kinds := [], alts := [], laidByText := true, laidKinds := [.data, .data, .data, .data], laidTests := true, laidLooks := .later }
def FnExactLoopOfSceneUptoCardSaid : Prop := Claim7.holds Tryd.pinned (.plain (OpenSpec.upto fnExactLoopOfSceneSpec)) fnExactLoopOfSceneUptoCard

/-- THE SECOND FORM's CARD OF 'laws.FnExactPaintedAfter'. -/
def fnExactPaintedAfterUptoCard : Claim7 := { stood := { row := fnExactPaintedAfterUptoRow, standIns := [], harness := (true, "fec946aae93def73cbcd236e14635b3cd31dbbf27d460462e4bcd3fb444f1871"), looks := true }, kinds := [], alts := [], laidByText := true, laidKinds := [.data, .data, .data, .data], laidTests := true, laidLooks := .later }
def FnExactPaintedAfterUptoCardSaid : Prop := Claim7.holds Tryd.pinned (.plain (OpenSpec.upto fnExactPaintedAfterSpec)) fnExactPaintedAfterUptoCard

/-- THE SECOND FORM's CARD OF 'laws.FnExactStatesReached'. -/
def fnExactStatesReachedUptoCard : Claim7 := { stood := { row := fnExactStatesReachedUptoRow, standIns := [], harness := (true, "fec946aae93def73cbcd236e14635b3cd31dbbf27d460462e4bcd3fb444f1871"), looks := true }, kinds := [], alts := [], laidByText := true, laidKinds := [.data], laidTests := true, laidLooks := .later }
def FnExactStatesReachedUptoCardSaid : Prop := Claim7.holds Tryd.pinned (.plain (OpenSpec.upto fnExactStatesReachedSpec)) fnExactStatesReachedUptoCard

/-- THE SECOND FORM's CARD OF 'laws.FnExactParseTable'. -/
def fnExactParseTableUptoCard : Claim7 := { stood := { row := fnExactParseTableUptoRow, standIns := [], harness := (true, "fec946aae93def73cbcd236e14635b3cd31dbbf27d460462e4bcd3fb444f1871"), looks := true }, kinds := [], alts := [], laidByText := true, laidKinds := [.data, .data, .data, .data], laidTests := true, laidLooks := .later }
def FnExactParseTableUptoCardSaid : Prop := Claim7.holds Tryd.pinned (.plain (OpenSpec.upto fnExactParseTableSpec)) fnExactParseTableUptoCard

/-- THE SECOND FORM's CARD OF 'laws.FnExactPuzzleText'. -/
def fnExactPuzzleTextUptoCard : Claim7 := { stood := { row := fnExactPuzzleTextUptoRow, standIns := [], harness := (true, "fec946aae93def73cbcd236e14635b3cd31dbbf27d460462e4bcd3fb444f1871"), looks := true }, kinds := [], alts := [], laidByText := true, laidKinds := [.data, .data, .data], laidTests := true, laidLooks := .later }
def FnExactPuzzleTextUptoCardSaid : Prop := Claim7.holds Tryd.pinned (.plain (OpenSpec.upto fnExactPuzzleTextSpec)) fnExactPuzzleTextUptoCard

/-- THE SECOND FORM's CARD OF 'laws.FnExactParsePuzzle'. -/
def fnExactParsePuzzleUptoCard : Claim7 := { stood := { row := fnExactParsePuzzleUptoRow, standIns := [], harness := (true, "fec946aae93def73cbcd236e14635b3cd31dbbf27d460462e4bcd3fb444f1871"), looks := true }, kinds := [], alts := [], laidByText := true, laidKinds := [.data, .data, .data, .data, .sentinel, .sentinel, .pinned], laidTests := true, laidLooks := .later }
def FnExactParsePuzzleUptoCardSaid : Prop := Claim7.holds Tryd.pinned (.plain (OpenSpec.upto fnExactParsePuzzleSpec)) fnExactParsePuzzleUptoCard
end Rows
end Go.Proofs.YtpkokghbkamelaaDoor
