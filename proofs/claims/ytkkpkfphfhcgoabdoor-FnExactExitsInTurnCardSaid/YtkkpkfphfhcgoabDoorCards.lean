/-
  DERIVED. GIVEN WITH THE SEED: THE CARDS: each row of YtkkpkfphfhcgoabDoorRows.lean that lists a variable, with what it lists TIED to the program's text (the seventh form; the later family's looks); each row that meets fmt, with fmt's text TOLD by the authors' own Lean function (tested against real Go, not proved from fmt's source: count such statements apart). THE CARD IS WHAT COUNTS. Prove the row's statement (the work); the ties are given (YtkkpkfphfhcgoabDoorTie.lean); close each card by the builder's one call (the guide's Derived/Test/ToyasCard.lean, 'card_holds'). Laid BY PROGRAM, IN A SANDBOX (cutbox-door.mjs). By AI agents, Wed Nov 11 2026. No macro, syntax, notation, axiom, sorry.
-/
import Derived.Test.YtkkpkfphfhcgoabDoorRows
import GoSem.ClaimSeven
namespace Go.Proofs.YtkkpkfphfhcgoabDoor
namespace Rows

/-- THE TIED CARD OF 'laws.FnExactExitsInTurn'. -/
def fnExactExitsInTurnCard : Claim7 := { stood := { row := fnExactExitsInTurnRow, standIns := [], harness := (true, "39318406e38cecfccfb1859298c574a847cfb632f5591c26b42167b098a3b665"), looks := false }, kinds := [], alts := [], laidByText := true, laidKinds := [.data, .pinned], laidTests := true, laidLooks := .later }
def FnExactExitsInTurnCardSaid : Prop := Claim7.holds Tryd.pinned (.plain (OpenSpec.ofChange fnExactExitsInTurnSpec)) fnExactExitsInTurnCard

/-- THE TIED CARD OF 'laws.FnExactTurnMaze'. -/
def fnExactTurnMazeCard : Claim7 := { stood := { row := fnExactTurnMazeRow, standIns := [], harness := (true, "39318406e38cecfccfb1859298c574a847cfb632f5591c26b42167b098a3b665"), looks := false }, kinds := [], alts := [], laidByText := true, laidKinds := [.data, .pinned], laidTests := true, laidLooks := .later }
def FnExactTurnMazeCardSaid : Prop := Claim7.holds Tryd.pinned (.plain (OpenSpec.ofChange fnExactTurnMazeSpec)) fnExactTurnMazeCard

/-- THE TIED CARD OF 'laws.FnExactMirrorMaze'. -/
def fnExactMirrorMazeCard : Claim7 := { stood := { row := fnExactMirrorMazeRow, standIns := [], harness := (true, "39318406e38cecfccfb1859298c574a847cfb632f5591c26b42167b098a3b665"), looks := false }, kinds := [], alts := [], laidByText := true, laidKinds := [.data, .pinned], laidTests := true, laidLooks := .later }
def FnExactMirrorMazeCardSaid : Prop := Claim7.holds Tryd.pinned (.plain (OpenSpec.ofChange fnExactMirrorMazeSpec)) fnExactMirrorMazeCard

/-- THE TIED CARD OF 'laws.FnExactMazeText'. -/
def fnExactMazeTextCard : Claim7 := { stood := { row := fnExactMazeTextRow, standIns := [], harness := (true, "39318406e38cecfccfb1859298c574a847cfb632f5591c26b42167b098a3b665"), looks := false }, kinds := [], alts := [], laidByText := true, laidKinds := [.data, .data, .data, .data, .pinned], laidTests := true, laidLooks := .later }
def FnExactMazeTextCardSaid : Prop := Claim7.holds Tryd.pinned (.plain (OpenSpec.ofChange fnExactMazeTextSpec)) fnExactMazeTextCard

/-- THE TIED CARD OF 'laws.FnExactParseMaze'. -/
def fnExactParseMazeCard : Claim7 := { stood := { row := fnExactParseMazeRow, standIns := [], harness := (true, "39318406e38cecfccfb1859298c574a847cfb632f5591c26b42167b098a3b665"), looks := false }, kinds := [], alts := [], laidByText := true, laidKinds := [.data, .data, .data, .data, .pinned], laidTests := true, laidLooks := .later }
def FnExactParseMazeCardSaid : Prop := Claim7.holds Tryd.pinned (.plain (OpenSpec.ofChange fnExactParseMazeSpec)) fnExactParseMazeCard

/-- THE SECOND FORM's CARD OF 'laws.FnExactExitsInTurn'. -/
def fnExactExitsInTurnUptoCard : Claim7 := { stood := { row := fnExactExitsInTurnUptoRow, standIns := [], harness := (true, "39318406e38cecfccfb1859298c574a847cfb632f5591c26b42167b098a3b665"), looks := false }, kinds := [], alts := [], laidByText := true, laidKinds := [.data, .pinned], laidTests := true, laidLooks := .later }
def FnExactExitsInTurnUptoCardSaid : Prop := Claim7.holds Tryd.pinned (.plain (OpenSpec.upto fnExactExitsInTurnSpec)) fnExactExitsInTurnUptoCard

/-- THE SECOND FORM's CARD OF 'laws.FnExactTurnMaze'. -/
def fnExactTurnMazeUptoCard : Claim7 := { stood := { row := fnExactTurnMazeUptoRow, standIns := [], harness := (true, "39318406e38cecfccfb1859298c574a847cfb632f5591c26b42167b098a3b665"), looks := false }, kinds := [], alts := [], laidByText := true, laidKinds := [.data, .pinned], laidTests := true, laidLooks := .later }
def FnExactTurnMazeUptoCardSaid : Prop := Claim7.holds Tryd.pinned (.plain (OpenSpec.upto fnExactTurnMazeSpec)) fnExactTurnMazeUptoCard

/-- THE SECOND FORM's CARD OF 'laws.FnExactMirrorMaze'. -/
def fnExactMirrorMazeUptoCard : Claim7 := { stood := { row := fnExactMirrorMazeUptoRow, standIns := [], harness := (true, "39318406e38cecfccfb1859298c574a847cfb632f5591c26b42167b098a3b665"), looks := false }, kinds := [], alts := [], laidByText := true, laidKinds := [.data, .pinned], laidTests := true, laidLooks := .later }
def FnExactMirrorMazeUptoCardSaid : Prop := Claim7.holds Tryd.pinned (.plain (OpenSpec.upto fnExactMirrorMazeSpec)) fnExactMirrorMazeUptoCard

/-- THE SECOND FORM's CARD OF 'laws.FnExactMazeText'. -/
def fnExactMazeTextUptoCard : Claim7 := { stood := { row := fnExactMazeTextUptoRow, standIns := [], harness := (true, "39318406e38cecfccfb1859298c574a847cfb632f5591c26b42167b098a3b665"), looks := false }, kinds := [], alts := [], laidByText := true, laidKinds := [.data, .data, .data, .data, .pinned], laidTests := true, laidLooks := .later }
def FnExactMazeTextUptoCardSaid : Prop := Claim7.holds Tryd.pinned (.plain (OpenSpec.upto fnExactMazeTextSpec)) fnExactMazeTextUptoCard

/-- THE SECOND FORM's CARD OF 'laws.FnExactParseMaze'. -/
def fnExactParseMazeUptoCard : Claim7 := { stood := { row := fnExactParseMazeUptoRow, standIns := [], harness := (true, "39318406e38cecfccfb1859298c574a847cfb632f5591c26b42167b098a3b665"), looks := false }, kinds := [], alts := [], laidByText := true, laidKinds := [.data, .data, .data, .data, .pinned], laidTests := true, laidLooks := .later }
def FnExactParseMazeUptoCardSaid : Prop := Claim7.holds Tryd.pinned (.plain (OpenSpec.upto fnExactParseMazeSpec)) fnExactParseMazeUptoCard
end Rows
end Go.Proofs.YtkkpkfphfhcgoabDoor
