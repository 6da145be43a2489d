/-
  DERIVED. GIVEN WITH THE SEED: THE CARDS: each row of YtopolpgligoldaaDoorRows.lean that lists a variable, with what it lists TIED to the program's text (the seventh form; the later family's looks); each row that meets fmt, with fmt's text TOLD by the authors' own Lean function (tested against real Go, not proved from fmt's source: count such statements apart). THE CARD IS WHAT COUNTS. Prove the row's statement (the work); the ties are given (YtopolpgligoldaaDoorTie.lean); close each card by the builder's one call (the guide's Derived/Test/ToyasCard.lean, 'card_holds'). Laid BY PROGRAM, IN A SANDBOX (cutbox-door.mjs). By AI agents, Wed Nov 11 2026. No macro, syntax, notation, axiom, sorry.
-/
import Derived.Test.YtopolpgligoldaaDoorRows
import GoSem.ClaimSeven
namespace Go.Proofs.YtopolpgligoldaaDoor
namespace Rows

/-- THE TIED CARD OF 'laws.FnExactIsTable'. -/
def fnExactIsTableCard : Claim7 := { stood := { row := fnExactIsTableRow, standIns := [], harness := (true, "e8c9cf0fcdb1a0f793faad3a88ba4a683b66ab60ec06d95c506e31a791a0a549"), looks := false }, kinds := [], alts := [], laidByText := true, laidKinds := [.data], laidTests := true, laidLooks := .later }
def FnExactIsTableCardSaid : Prop := Claim7.holds Tryd.pinned (.plain (OpenSpec.ofChange fnExactIsTableSpec)) fnExactIsTableCard

/-- THE TIED CARD OF 'laws.FnExactIsScene'. -/
def fnExactIsSceneCard : Claim7 := { stood := { row := fnExactIsSceneRow, standIns := [], harness := (true, "e8c9cf0fcdb1a0f793faad3a88ba4a683b66ab60ec06d95c506e31a791a0a549"), looks := false }, kinds := [], alts := [], laidByText := true, laidKinds := [.data], laidTests := true, laidLooks := .later }
def FnExactIsSceneCardSaid : Prop := Claim7.holds Tryd.pinned (.plain (OpenSpec.ofChange fnExactIsSceneSpec)) fnExactIsSceneCard

/-- THE TIED CARD OF 'laws.FnExactRowOf'. -/
def fnExactRowOfCard : Claim7 := { stood := { row := fnExactRowOfRow, standIns := [], harness := (true, "e8c9cf0fcdb1a0f793faad3a88ba4a683b66ab60ec06d95c506e31a791a0a549"), looks := false }, kinds := [], alts := [], laidByText := true, laidKinds := [.data], laidTests := true, laidLooks := .later }
def FnExactRowOfCardSaid : Prop := Claim7.holds Tryd.pinned (.plain (OpenSpec.ofChange fnExactRowOfSpec)) fnExactRowOfCard

/-- THE TIED CARD OF 'laws.FnExactEmptyScene'. -/
def fnExactEmptySceneCard : Claim7 := { stood := { row := fnExactEmptySceneRow, standIns := [], harness := (true, "e8c9cf0fcdb1a0f793faad3a88ba4a683b66ab60ec06d95c506e31a791a0a549"), looks := false }, kinds := [], alts := [], laidByText := true, laidKinds := [.data], laidTests := true, laidLooks := .later }
def FnExactEmptySceneCardSaid : Prop := Claim7.holds Tryd.pinned (.plain (OpenSpec.ofChange fnExactEmptySceneSpec)) fnExactEmptySceneCard

/-- THE TIED CARD OF 'laws.FnExactStepScene'. -/
def fnExactStepSceneCard : Claim7 := { stood := { row := fnExactStepSceneRow, standIns := [], harness := (true, "e8c9cf0fcdb1a0f793faad3a88ba4a683b66ab60ec06d95c506e31a791a0a549"), looks := false }, kinds := [], alts := [], laidByText := true, laidKinds := [.data, .data, .data, .data], laidTests := true, laidLooks := .later }
def FnExactStepSceneCardSaid : Prop := Claim7.holds Tryd.pinned (.plain (OpenSpec.ofChange fnExactStepSceneSpec)) fnExactStepSceneCard

/-- THE TIED CARD OF 'laws.FnExactSceneAfter'. -/
def fnExactSceneAfterCard : Claim7 := { stood := { row := fnExactSceneAfterRow, standIns := [], harness := (true, "e8c9cf0fcdb1a0f793faad3a88ba4a683b66ab60ec06d95c506e31a791a0a549"), looks := false }, kinds := [], alts := [], laidByText := true, laidKinds := [.data, .data, .data, .data], laidTests := true, laidLooks := .later }
def FnExactSceneAfterCardSaid : Prop := Claim7.holds Tryd.pinned (.plain (OpenSpec.ofChange fnExactSceneAfterSpec)) fnExactSceneAfterCard

/-- THE TIED CARD OF 'laws.FnExactCanUndo'. -/
def fnExactCanUndoCard : Claim7 := { stood := { row := fnExactCanUndoRow, standIns := [], harness := (true, "e8c9cf0fcdb1a0f793faad3a88ba4a683b66ab60ec06d95c506e31a791a0a549"), looks := false }, kinds := [], alts := [], laidByText := true, laidKinds := [.data], laidTests := true, laidLooks := .later }
def FnExactCanUndoCardSaid : Prop := Claim7.holds Tryd.pinned (.plain (OpenSpec.ofChange fnExactCanUndoSpec)) fnExactCanUndoCard

/-- THE TIED CARD OF 'laws.FnExactUndoScene'. -/
def fnExactUndoSceneCard : Claim7 := { stood := { row := fnExactUndoSceneRow, standIns := [], harness := (true, "e8c9cf0fcdb1a0f793faad3a88ba4a683b66ab60ec06d95c506e31a791a0a549"), looks := false }, kinds := [], alts := [], laidByText := true, laidKinds := [.data, .data, .data, .data], laidTests := true, laidLooks := .later }
def FnExactUndoSceneCardSaid : Prop := Claim7.holds Tryd.pinned (.plain (OpenSpec.ofChange fnExactUndoSceneSpec)) fnExactUndoSceneCard

/-- THE TIED CARD OF 'laws.FnExactLoopOfScene'. -/
def fnExactLoopOfSceneCard : Claim7 := { stood := { row := fnExactLoopOfSceneRow, standIns := [], harness := (true, "e8c9cf0fcdb1a0f793faad3a88ba4a683b66ab60ec06d95c506e31a791a0a549"), looks := false }, kinds := [], alts := [], laidByText := true, laidKinds := [.data, .data, .data, .data], laidTests := true, laidLooks := .later }
def FnExactLoopOfSceneCardSaid : Prop := Claim7.holds Tryd.pinned (.plain (OpenSpec.ofChange fnExactLoopOfSceneSpec)) fnExactLoopOfSceneCard

/-- THE TIED CARD OF 'laws.FnExactPaintedAfter'. -/
def fnExactPaintedAfterCard : Claim7 := { stood := { row := fnExactPaintedAfterRow, standIns := [], harness := (true, "e8c9cf0fcdb1a0f793faad3a88ba4a683b66ab60ec06d95c506e31a791a0a549"), looks := false }, kinds := [], alts := [], laidByText := true, laidKinds := [.data, .data, .data, .data], laidTests := true, laidLooks := .later }
def FnExactPaintedAfterCardSaid : Prop := Claim7.holds Tryd.pinned (.plain (OpenSpec.ofChange fnExactPaintedAfterSpec)) fnExactPaintedAfterCard

/-- THE TIED CARD OF 'laws.FnExactRenameStates'. -/
def fnExactRenameStatesCard : Claim7 := { stood := { row := fnExactRenameStatesRow, standIns := [], harness := (true, "e8c9cf0fcdb1a0f793faad3a88ba4a683b66ab60ec06d95c506e31a791a0a549"), looks := false }, kinds := [], alts := [], laidByText := true, laidKinds := [.data], laidTests := true, laidLooks := .later }
def FnExactRenameStatesCardSaid : Prop := Claim7.holds Tryd.pinned (.plain (OpenSpec.ofChange fnExactRenameStatesSpec)) fnExactRenameStatesCard

/-- THE SECOND FORM's CARD OF 'laws.FnExactIsTable'. -/
def fnExactIsTableUptoCard : Claim7 := { stood := { row := fnExactIsTableUptoRow, standIns := [], harness := (true, "e8c9cf0fcdb1a0f793faad3a88ba4a683b66ab60ec06d95c506e31a791a0a549"), looks := false }, kinds := [], alts := [], laidByText := true, laidKinds := [.data], laidTests := true, laidLooks := .later }
def FnExactIsTableUptoCardSaid : Prop := Claim7.holds Tryd.pinned (.plain (OpenSpec.upto fnExactIsTableSpec)) fnExactIsTableUptoCard

/-- THE SECOND FORM's CARD OF 'laws.FnExactIsScene'. -/
def fnExactIsSceneUptoCard : Claim7 := { stood := { row := fnExactIsSceneUptoRow, standIns := [], harness := (true, "e8c9cf0fcdb1a0f793faad3a88ba4a683b66ab60ec06d95c506e31a791a0a549"), looks := false }, kinds := [], alts := [], laidByText := true, laidKinds := [.data], laidTests := true, laidLooks := .later }
def FnExactIsSceneUptoCardSaid : Prop := Claim7.holds Tryd.pinned (.plain (OpenSpec.upto fnExactIsSceneSpec)) fnExactIsSceneUptoCard

/-- THE SECOND FORM's CARD OF 'laws.FnExactRowOf'. -/
def fnExactRowOfUptoCard : Claim7 := { stood := { row := fnExactRowOfUptoRow, standIns := [], harness := (true, "e8c9cf0fcdb1a0f793faad3a88ba4a683b66ab60ec06d95c506e31a791a0a549"), looks := false }, kinds := [], alts := [], laidByText := true, laidKinds := [.data], laidTests := true, laidLooks := .later }
def FnExactRowOfUptoCardSaid : Prop := Claim7.holds Tryd.pinned (.plain (OpenSpec.upto fnExactRowOfSpec)) fnExactRowOfUptoCard

/-- THE SECOND FORM's CARD OF 'laws.FnExactEmptyScene'. -/
def fnExactEmptySceneUptoCard : Claim7 := { stood := { row := fnExactEmptySceneUptoRow, standIns := [], harness := (true, "e8c9cf0fcdb1a0f793faad3a88ba4a683b66ab60ec06d95c506e31a791a0a549"), looks := false }, kinds := [], alts := [], laidByText := true, laidKinds := [.data], laidTests := true, laidLooks := .later }
def FnExactEmptySceneUptoCardSaid : Prop := Claim7.holds Tryd.pinned (.plain (OpenSpec.upto fnExactEmptySceneSpec)) fnExactEmptySceneUptoCard

/-- THE SECOND FORM's CARD OF 'laws.FnExactStepScene'. -/
def fnExactStepSceneUptoCard : Claim7 := { stood := { row := fnExactStepSceneUptoRow, standIns := [], harness := (true, "e8c9cf0fcdb1a0f793faad3a88ba4a683b66ab60ec06d95c506e31a791a0a549"), looks := false }, kinds := [], alts := [], laidByText := true, laidKinds := [.data, .data, .data, .data], laidTests := true, laidLooks := .later }
def FnExactStepSceneUptoCardSaid : Prop := Claim7.holds Tryd.pinned (.plain (OpenSpec.upto fnExactStepSceneSpec)) fnExactStepSceneUptoCard

/-- THE SECOND FORM's CARD OF 'laws.FnExactSceneAfter'. -/
def fnExactSceneAfterUptoCard : Claim7 := { stood := { row := fnExactSceneAfterUptoRow, standIns := [], harness := (true, "e8c9cf0fcdb1a0f793faad3a88ba4a683b66ab60ec06d95c506e31a791a0a549"), looks := false }, kinds := [], alts := [], laidByText := true, laidKinds := [.data, .data, .data, .data], laidTests := true, laidLooks := .later }
def FnExactSceneAfterUptoCardSaid : Prop := Claim7.holds Tryd.pinned (.plain (OpenSpec.upto fnExactSceneAfterSpec)) fnExactSceneAfterUptoCard

/-- THE SECOND FORM's CARD OF 'laws.FnExactCanUndo'. -/
def fnExactCanUndoUptoCard : Claim7 := { stood := { row := fnExactCanUndoUptoRow, standIns := [], harness := (true, "e8c9cf0fcdb1a0f793faad3a88ba4a683b66ab60ec06d95c506e31a791a0a549"), looks := false }, kinds := [], alts := [], laidByText := true, laidKinds := [.data], laidTests := true, laidLooks := .later }
def FnExactCanUndoUptoCardSaid : Prop := Claim7.holds Tryd.pinned (.plain (OpenSpec.upto fnExactCanUndoSpec)) fnExactCanUndoUptoCard

/-- THE SECOND FORM's CARD OF 'laws.FnExactUndoScene'. -/
def fnExactUndoSceneUptoCard : Claim7 := { stood := { row := fnExactUndoSceneUptoRow, standIns := [], harness := (true, "e8c9cf0fcdb1a0f793faad3a88ba4a683b66ab60ec06d95c506e31a791a0a549"), looks := false }, kinds := [], alts := [], laidByText := true, laidKinds := [.data, .data, .data, .data], laidTests := true, laidLooks := .later }
def FnExactUndoSceneUptoCardSaid : Prop := Claim7.holds Tryd.pinned (.plain (OpenSpec.upto fnExactUndoSceneSpec)) fnExactUndoSceneUptoCard

/-- THE SECOND FORM's CARD OF 'laws.FnExactLoopOfScene'. -/
def fnExactLoopOfSceneUptoCard : Claim7 := { stood := { row := fnExactLoopOfSceneUptoRow, standIns := [], harness := (true, "e8c9cf0fcdb1a0f793faad3a88ba4a683b66ab60ec06d95c506e31a791a0a549"), looks := false }, kinds := [], alts := [], laidByText := true, laidKinds := [.data, .data, .data, .data], laidTests := true, laidLooks := .later }
def FnExactLoopOfSceneUptoCardSaid : Prop := Claim7.holds Tryd.pinned (.plain (OpenSpec.upto fnExactLoopOfSceneSpec)) fnExactLoopOfSceneUptoCard

/-- THE SECOND FORM's CARD OF 'laws.FnExactPaintedAfter'. -/
def fnExactPaintedAfterUptoCard : Claim7 := { stood := { row := fnExactPaintedAfterUptoRow, standIns := [], harness := (true, "e8c9cf0fcdb1a0f793faad3a88ba4a683b66ab60ec06d95c506e31a791a0a549"), looks := false }, kinds := [], alts := [], laidByText := true, laidKinds := [.data, .data, .data, .data], laidTests := true, laidLooks := .later }
def FnExactPaintedAfterUptoCardSaid : Prop := Claim7.holds Tryd.pinned (.plain (OpenSpec.upto fnExactPaintedAfterSpec)) fnExactPaintedAfterUptoCard

/-- THE SECOND FORM's CARD OF 'laws.FnExactRenameStates'. -/
def fnExactRenameStatesUptoCard : Claim7 := { stood := { row := fnExactRenameStatesUptoRow, standIns := [], harness := (true, "e8c9cf0fcdb1a0f793faad3a88ba4a683b66ab60ec06d95c506e31a791a0a549"), looks := false }, kinds := [], alts := [], laidByText := true, laidKinds := [.data], laidTests := true, laidLooks := .later }
def FnExactRenameStatesUptoCardSaid : Prop := Claim7.holds Tryd.pinned (.plain (OpenSpec.upto fnExactRenameStatesSpec)) fnExactRenameStatesUptoCard
end Rows
end Go.Proofs.YtopolpgligoldaaDoor
